/- Locks: the book beside the table: met. -/
import Derived.Test.YtkbgifhhnnfgoaaGreatDoorLk58
import Derived.Deep.QuietTactic
namespace Go.Proofs.YtkbgifhhnnfgoaaGreatDoor
section
section
section
section
open Go.RowKit

/-- Who is live, in the book's memory. -/
def Lf (w : World) (lo : Nat) (v : Value) (live : List (Int × Int)) : Prop := w.ownsRow lo 41 2 v live.length (qc live) ∧ live.length < 2000000000000
theorem Lf.at {w : World} {lo : Nat} {va : Option Addr} {vn vc : Nat} {live : List (Int × Int)} (h : Lf w lo (.slice va vn vc) live) {n : Nat} {a : Int × Int} (ha : live[n]? = some a) : ∃ ga, va = some ⟨ga, 0, none⟩ ∧ w.cell? ⟨ga, n * 2, none⟩ = some (I a.1) ∧ w.cell? ⟨ga, n * 2 + 1, none⟩ = some (I a.2) := by
  have hlt := (List.getElem?_eq_some_iff.1 ha).1
  have h2 := h.1
  rcases h2.2 with ⟨e, e2⟩ | ⟨ga, cap, cur, e, -⟩
  · omega
  · have e3 : va = some ⟨ga, 0, none⟩ := by cases e; rfl
    rw [e] at h2
    obtain ⟨k1, k2⟩ := qc_at live [] n a.1 a.2 ha
    rw [List.append_nil] at k1 k2
    exact ⟨ga, e3, by rw [h2.cellAt _ (by omega)]; exact k1, by rw [h2.cellAt _ (by omega)]; exact k2⟩
theorem Lf.form {w : World} {lo : Nat} {v : Value} {live : List (Int × Int)} (h : Lf w lo v live) : ∃ a c, v = .slice a live.length c := row_form h.1
def stampL (live : List (Int × Int)) (x : Int) : Int := match live.find? (fun a => a.1 == x) with | some a => a.2 | none => 0
theorem stampL_at {live : List (Int × Int)} {x : Int} {n : Nat} {a : Int × Int} (hn : ∀ b ∈ live.take n, b.1 ≠ x) (ha : live[n]? = some a) (e : a.1 = x) : stampL live x = a.2 := by
  have hs : live = live.take n ++ a :: live.drop (n + 1) := by
    obtain ⟨hlt, hae⟩ := List.getElem?_eq_some_iff.1 ha
    rw [← hae, ← List.drop_eq_getElem_cons hlt, List.take_append_drop]
  unfold stampL
  rw [hs, List.find?_append]
  have : (live.take n).find? (fun a => a.1 == x) = none := List.find?_eq_none.2 (fun b hb => by simpa using hn b hb)
  rw [this]
  simp [e]
theorem stampL_no {live : List (Int × Int)} {x : Int} (hn : ∀ b ∈ live, b.1 ≠ x) : stampL live x = 0 := by
  unfold stampL
  rw [List.find?_eq_none.2 (fun b hb => by simpa using hn b hb)]
def oldS (z : Int) (a : Int × Int) : Int := if z = 0 ∨ a.2 < z then a.2 else z
def oldL (z : Int) (live : List (Int × Int)) : Int := live.foldl oldS z
theorem take_all {live : List (Int × Int)} {n : Nat} {a : Int × Int} {P : Int × Int → Prop} (hn : ∀ b ∈ live.take n, P b) (ha : live[n]? = some a) (h : P a) : ∀ b ∈ live.take (n + 1), P b := fun b hb => by
  rw [List.take_add_one, ha] at hb
  rcases List.mem_append.1 hb with hb | hb
  · exact hn b hb
  · simp at hb; rw [hb]; exact h
set_option maxRecDepth 100000 in
set_option maxHeartbeats 1000000 in
theorem stamp_any (b : Nat) (pv va vr : Value) (lo : Nat) (live : List (Int × Int)) (x : Int) (w : World) (hb : Blk w b 31 [pv, va, vr]) (hl : Lf w lo va live) : Calls Tryz.prog 27 #[ptr b, I x] w fun e w' => e = .returned (I (stampL live x)) ∧ w' = w := by
  obtain ⟨aa, ac, rfl⟩ := hl.form
  have hbc := hb.cell
  have HL := hide hl
  clear hb hl
  go_enter Tryz.func27, Tryz.ntmps27
  go_wp2
  go_loopw [5] (fun i wr => ∃ n : Nat, n ≤ live.length ∧ i = I (n : Int) ∧ wr = w ∧ ∀ c ∈ live.take n, c.1 ≠ x) (fun i _ => live.length - (RowKit.intOf i).toNat)
  case atStart => exact ⟨0, Nat.zero_le _, rfl, rfl, fun c hc => by simp at hc⟩
  case round =>
    obtain ⟨n, hn, rfl, rfl, hno⟩ := hrel
    have HNO := hide hno
    clear hno
    by_cases hlt : n < live.length
    · obtain ⟨⟨c1, c2⟩, hc⟩ : ∃ a, live[n]? = some a := ⟨_, List.getElem?_eq_getElem hlt⟩
      obtain ⟨ga, hga, k1, k2⟩ := HL.out.at hc
      subst hga
      have hnI : (n : Int) < (live.length : Int) := by omega
      have hwn : wrap64 ((n : Int) + 1) = (n : Int) + 1 := by have := HL.out.2; unfold wrap64; omega
      have HWN := hide hwn
      have HC := hide hc
      have HLT := hide hlt
      clear hc hlt hn hwn
      by_cases hx : c1 = x
      · have HX := hide hx
        rw [hx] at k1
        clear hx
        go_wp2
        go_ret
        exact ⟨by rw [stampL_at HNO.out HC.out HX.out]; rfl, rfl⟩
      · go_wp2
        exact ⟨⟨n + 1, HLT.out, by rw [HWN.out]; exact rl1 n, trivial, take_all HNO.out HC.out hx⟩, by rw [HWN.out]; exact ms_end HLT.out⟩
    · have hne : n = live.length := by omega
      subst hne
      have hnI : ¬ ((live.length : Int) < (live.length : Int)) := by omega
      clear hn hlt
      go_wp2
      go_ret
      exact ⟨by rw [stampL_no (fun c hc => HNO.out c (by rw [List.take_length]; exact hc))]; rfl, rfl⟩
set_option maxRecDepth 100000 in
set_option maxHeartbeats 1000000 in
theorem oldest_any (b : Nat) (pv va vr : Value) (lo : Nat) (live : List (Int × Int)) (w : World) (hb : Blk w b 31 [pv, va, vr]) (hl : Lf w lo va live) : Calls Tryz.prog 11 #[ptr b] w fun e w' => e = .returned (I (oldL 0 live)) ∧ w' = w := by
  obtain ⟨aa, ac, rfl⟩ := hl.form
  have hbc := hb.cell
  have HL := hide hl
  clear hb hl
  go_enter Tryz.func11, Tryz.ntmps11
  go_wp2
  go_loopw [3, 4] (fun g i wr => ∃ n : Nat, n ≤ live.length ∧ g = I (oldL 0 (live.take n)) ∧ i = I (n : Int) ∧ wr = w) (fun _ i _ => live.length - (RowKit.intOf i).toNat)
  case atStart => exact ⟨0, Nat.zero_le _, rfl, rfl, rfl⟩
  case round =>
    obtain ⟨n, hn, rfl, rfl, rfl⟩ := hrel
    by_cases hlt : n < live.length
    · obtain ⟨⟨c1, c2⟩, hc⟩ : ∃ a, live[n]? = some a := ⟨_, List.getElem?_eq_getElem hlt⟩
      obtain ⟨ga, hga, k1, k2⟩ := HL.out.at hc
      subst hga
      have hnI : (n : Int) < (live.length : Int) := by omega
      have hwn : wrap64 ((n : Int) + 1) = (n : Int) + 1 := by have := HL.out.2; unfold wrap64; omega
      have HWN := hide hwn
      have hsn : oldL 0 (live.take (n + 1)) = oldS (oldL 0 (live.take n)) (c1, c2) := by rw [List.take_add_one, hc]; simp [oldL]
      have HSN := hide hsn
      have HLT := hide hlt
      clear hc hlt hn hwn hsn
      generalize oldL 0 (live.take n) = z at HSN ⊢
      by_cases hz : z = 0
      · have HZ := hide hz
        have hzd : decide (z = 0) = true := by simp [hz]
        go_wp2
        exact ⟨⟨n + 1, HLT.out, by rw [HSN.out]; simp [oldS, HZ.out], by rw [HWN.out]; exact rl1 n, trivial⟩, by rw [HWN.out]; exact ms_end HLT.out⟩
      · by_cases hlt2 : c2 < z
        · go_wp2
          exact ⟨⟨n + 1, HLT.out, by rw [HSN.out]; simp [oldS, hlt2], by rw [HWN.out]; exact rl1 n, trivial⟩, by rw [HWN.out]; exact ms_end HLT.out⟩
        · go_wp2
          exact ⟨⟨n + 1, HLT.out, by rw [HSN.out]; simp [oldS, hlt2, hz], by rw [HWN.out]; exact rl1 n, trivial⟩, by rw [HWN.out]; exact ms_end HLT.out⟩
    · have hne : n = live.length := by omega
      subst hne
      have hnI : ¬ ((live.length : Int) < (live.length : Int)) := by omega
      clear hn hlt
      rw [List.take_length]
      go_wp2
      go_ret
      exact ⟨rfl, rfl⟩
end
open Go.RowKit

noncomputable def hurtB (m : Ms) (x : Int) : Bool := match m.lv x with | some p => p.hurt | none => false
noncomputable def hurtL (m : Ms) (live : List (Int × Int)) : List Int := (live.filter fun a => hurtB m a.1).map fun a => a.1
/-- The book knows who is live, and their stamps. -/
structure Bk (m : Ms) (live : List (Int × Int)) : Prop where
  nd : (live.map Prod.fst).Nodup
  mem : ∀ x st, (x, st) ∈ live ↔ ∃ p, m.lv x = some p ∧ p.stamp = st
theorem hurtL_snoc {m : Ms} {live : List (Int × Int)} {n : Nat} {a : Int × Int} (h : live[n]? = some a) : hurtL m (live.take (n + 1)) = if hurtB m a.1 = true then hurtL m (live.take n) ++ [a.1] else hurtL m (live.take n) := by
  unfold hurtL
  rw [List.take_add_one, h, List.filter_append]
  cases hb : hurtB m a.1 <;> simp [hb]
theorem hurtL_len (m : Ms) (live : List (Int × Int)) : (hurtL m live).length ≤ live.length := by
  unfold hurtL
  rw [List.length_map]
  exact List.length_filter_le _ _
set_option maxRecDepth 100000 in
set_option maxHeartbeats 1000000 in
theorem wounded_same (t : Nat) (s : Gs) (x : Int) (p : Pt) (w : World) (h : TT w t s) (hx : R64 x) (hp : s.lv x = some p) (hwR : ∀ y, p.wd y = true → R64 y) :
    Calls Tryz.prog 15 #[ptr t, I x] w fun e w' => e = .returned (.tuple #[.bool p.hurt, I 0]) ∧ w' = w := by
  have K := hide (partyOf_any t s x w h hx)
  rw [hp] at K
  simp only [ptv, Option.isSome_some, if_true] at K
  have ho := h.pt x p hp
  have K1 := hide (isWounded_any p w ho.blk ho.wm hwR)
  clear h ho hp hx hwR
  go_enter Tryz.func15, Tryz.ntmps15
  go_wp2_with (first | (go_at_call 29; with_reducible refine (K.out).mono ?_; rintro e w' ⟨rfl, hw'⟩; have hw2 := hw'.symm; subst hw2; clear hw') | (go_at_call 30; with_reducible refine (K1.out).mono ?_; rintro e w' ⟨rfl, hw'⟩; have hw2 := hw'.symm; subst hw2; clear hw') | fail)
  go_ret2
  exact ⟨rfl, rfl⟩
theorem wounded_t {w : World} {t : Nat} {s : Gs} {m : Ms} {L : List Int} {LR : List Rs} {x : Int} {pm : Pm} (h : GT w t s m L LR) (hp : m.lv x = some pm) : Calls Tryz.prog 15 #[ptr t, I x] w fun e w' => e = .returned (.tuple #[.bool pm.hurt, I 0]) ∧ w' = w := by
  have hi := h.iv.lv x pm hp
  obtain ⟨p, hq, rfl⟩ := h.ab.of hp
  rw [Pt.m_hurt]
  exact wounded_same t s x p w h.tt hi.xr hq (fun y hy => (hi.wd y hy).1)
set_option maxRecDepth 100000 in
set_option maxHeartbeats 1000000 in
theorem hurt_any (b t : Nat) (s : Gs) (m : Ms) (L : List Int) (LR : List Rs) (va vr : Value) (lo : Nat) (live : List (Int × Int)) (w : World) (h : GT w t s m L LR) (hb : Blk w b 31 [ptr t, va, vr]) (hl : Lf w lo va live) (hbk : Bk m live) : Calls Tryz.prog 18 #[ptr b] w fun e w' => ∃ v, e = .returned v ∧ w'.ownsRow w.heap.size 3 1 v (hurtL m live).length ((hurtL m live).map fun z => I z) ∧ G w w' := by
  obtain ⟨aa, ac, rfl⟩ := hl.form
  have HB := hide hb; have HL := hide hl; have HT := hide h; have HBK := hide hbk
  clear hb hl h hbk
  go_enter Tryz.func18, Tryz.ntmps18
  go_wp2
  go_loopw [3, 4] (fun u i wr => ∃ n : Nat, n ≤ live.length ∧ i = I (n : Int) ∧ wr.ownsRow w.heap.size 3 1 u (hurtL m (live.take n)).length ((hurtL m (live.take n)).map fun z => I z) ∧ G w wr) (fun _ i _ => live.length - (RowKit.intOf i).toNat)
  case atStart => exact ⟨0, Nat.zero_le _, rfl, ⟨rfl, .inl ⟨rfl, rfl⟩⟩, G.refl _⟩
  case round =>
    obtain ⟨n, hn, rfl, hrow, hgw⟩ := hrel
    have hbc := (HB.out.G hgw).cell
    by_cases hlt : n < live.length
    · obtain ⟨⟨c1, c2⟩, hc⟩ : ∃ a, live[n]? = some a := ⟨_, List.getElem?_eq_getElem hlt⟩
      obtain ⟨p, hp, -⟩ := (HBK.out.mem c1 c2).1 (List.mem_of_getElem? hc)
      have hLw : Lf wr lo (.slice aa live.length ac) live := ⟨own_G HL.out.1 hgw, HL.out.2⟩
      obtain ⟨ga, hga, k1, -⟩ := hLw.at hc
      subst hga
      have hnI : (n : Int) < (live.length : Int) := by omega
      have hwn : wrap64 ((n : Int) + 1) = (n : Int) + 1 := by have := HL.out.2; unfold wrap64; omega
      have HWN := hide hwn
      have hhb : hurtB m c1 = p.hurt := by unfold hurtB; rw [hp]
      have hsn := hurtL_snoc (m := m) hc
      rw [show hurtB m (c1, c2).1 = p.hurt from hhb] at hsn
      have hlen : (hurtL m (live.take n)).length < 4099999999999 := by
        have h1 := hurtL_len m (live.take n)
        have h2 := HL.out.2
        rw [List.length_take] at h1
        omega
      have HLW := hide hLw; have HGW := hide hgw; have HROW := hide hrow; have HC := hide hc; have HLT := hide hlt; have HLEN := hide hlen
      cases hh : p.hurt with
      | true =>
        rw [hh, if_pos rfl] at hsn
        have HSN := hide hsn
        have KW : Hid (∀ k, Calls Tryz.prog 15 #[ptr t, I c1] (wr.drewN k) fun e w' => e = .returned (.tuple #[.bool true, I 0]) ∧ w' = wr.drewN k) := fun k => by
          have := wounded_t (HT.out.G (HGW.out.drewN k)) hp
          rw [hh] at this
          exact this
        clear hsn hLw hgw hrow hc hlt hlen hn hwn hhb hp hh
        go_wp2
        go_quiet (first | (go_at_call 15; with_reducible refine Calls.quiet_of_same (KW.out _)))
        generalize hV : World.drewN wr _ = V
        have HGV : Hid (G wr V) := by rw [← hV]; exact (G.refl wr).drewN _
        have hbV := (HB.out.G (HGW.out.trans HGV.out)).cell
        obtain ⟨gb, hgb, kV, -⟩ := (show Lf V lo (.slice (some ⟨ga, 0, none⟩) live.length ac) live from ⟨own_G HLW.out.1 HGV.out, HLW.out.2⟩).at HC.out
        have hgb2 : ga = gb := by simpa using hgb
        subst hgb2
        obtain ⟨v9, w9, r1, r2, r3⟩ := app_one V w.heap.size u3 _ c1 (own_G HROW.out HGV.out) HLEN.out (HGW.out.trans HGV.out).size
        have HG9 : Hid (G w w9) := grown_G ((HGW.out.trans HGV.out).alloc _) r3 (fun b hb => (World.ownsRow.lt HROW.out b hb).1)
        have HR1 := hide r1; have HR2 := hide r2
        clear hV hgb r1 r2 r3 hbc k1 KW
        go_wp2_with (first | (at_builtin; refine wpList_append_run rfl _ _ 46 rfl _ _ rfl rfl HR1.out ?_) | fail)
        exact ⟨⟨n + 1, HLT.out, by rw [HWN.out]; exact rl1 n, by rw [HSN.out]; exact HR2.out, HG9.out⟩, by rw [HWN.out]; exact ms_end HLT.out⟩
      | false =>
        rw [hh, if_neg (by simp)] at hsn
        have HSN := hide hsn
        have KW : Hid (∀ k, Calls Tryz.prog 15 #[ptr t, I c1] (wr.drewN k) fun e w' => e = .returned (.tuple #[.bool false, I 0]) ∧ w' = wr.drewN k) := fun k => by
          have := wounded_t (HT.out.G (HGW.out.drewN k)) hp
          rw [hh] at this
          exact this
        clear hsn hLw hgw hrow hc hlt hlen hn hwn hhb hp hh
        go_wp2
        go_quiet (first | (go_at_call 15; with_reducible refine Calls.quiet_of_same (KW.out _)))
        generalize hV : World.drewN wr _ = V
        have HGV : Hid (G wr V) := by rw [← hV]; exact (G.refl wr).drewN _
        clear hV hbc k1 KW
        go_wp2
        exact ⟨⟨n + 1, HLT.out, by rw [HWN.out]; exact rl1 n, by rw [HSN.out]; exact own_G HROW.out HGV.out, HGW.out.trans HGV.out⟩, by rw [HWN.out]; exact ms_end HLT.out⟩
    · have hne : n = live.length := by omega
      subst hne
      have HROW := hide hrow; have HGW := hide hgw
      have hnI : ¬ ((live.length : Int) < (live.length : Int)) := by omega
      clear hn hlt hrow hgw
      go_wp2
      go_ret
      have h := HROW.out
      rw [List.take_length] at h
      exact ⟨_, rfl, h, HGW.out⟩
end
open Go.RowKit

theorem app_life (w7 : World) (lo : Nat) (u : Value) (qs : List (Int × Int)) (x y : Int) (hu : w7.ownsRow lo 41 2 u qs.length (qc qs)) (hl : qs.length < 4100000000000) (hlo : lo ≤ w7.heap.size) :
    ∃ v' w9, (Builtin.append_ #[28, 28] 28 #[u, .slice (some ⟨w7.heap.size, 0, none⟩) 1 1]).run Tryz.prog (w7.alloc (.cells #[I x, I y] 41)) = .ok v' w9 ∧ w9.ownsRow lo 41 2 v' (qs ++ [(x, y)]).length (qc (qs ++ [(x, y)])) ∧ (w7.alloc (.cells #[I x, I y] 41)).grownBy w9 u.ownBlock := by
  obtain ⟨i0, hi, hz0, hz1, hz2⟩ := info_parts (show (Tryz.prog.info? 41).map (fun i => (i.zero, i.size, i.bytes)) = some (some (.agg #[.int .i64 0, .int .i64 0]), 2, 16) from by kernel_rfl)
  have hmx : (4100000000001 : Nat) ≤ maxLen := of_decide_eq_true (by kernel_rfl)
  have gA : G w7 (w7.alloc (.cells #[I x, I y] 41)) := (G.refl w7).alloc _
  have hb := (Blk.new w7 [I x, I y] 41)
  have hu2 : (w7.alloc (.cells #[I x, I y] 41)).ownsRow lo 41 2 u qs.length (qc qs) := own_G hu gA
  obtain ⟨v', w9, q1, q2, q3, -, -⟩ := run_append_own_at (P := Tryz.prog) (w := w7.alloc (.cells #[I x, I y] 41)) lo 28 28 41 i0 _ 2 16 Tryz.underlying28 hi hz0 hz1 hz2 rfl (by decide) u _ _ hu2 ⟨w7.heap.size, 0, none⟩ 1 1 [I x, I y] (by simp) (fun j u hj => by
    have := hb.cell j
    rw [hj] at this
    rw [Addr.add_mid, Nat.zero_add]; exact this) (fun u hu => by simp at hu; rcases hu with rfl | rfl <;> rfl) (by omega) (by omega) (Nat.le_trans hlo gA.size)
  refine ⟨v', w9, q1, ?_, q3⟩
  rw [qc_snoc, List.length_append]
  exact q2
theorem noX_snoc {x : Int} {live : List (Int × Int)} {n : Nat} {a : Int × Int} (h : live[n]? = some a) : noX x (live.take (n + 1)) = if a.1 = x then noX x (live.take n) else noX x (live.take n) ++ [a] := by
  unfold noX
  rw [List.take_add_one, h, List.filter_append]
  by_cases e : a.1 = x
  · rw [if_pos e]; simp [e]
  · rw [if_neg e]; simp [e]
theorem noX_len (x : Int) (live : List (Int × Int)) : (noX x live).length ≤ live.length := List.length_filter_le _ _
set_option maxRecDepth 100000 in
set_option maxHeartbeats 1000000 in
theorem gone_any (b : Nat) (pv va vr : Value) (lo : Nat) (live : List (Int × Int)) (x : Int) (w : World) (hb : Blk w b 31 [pv, va, vr]) (hl : Lf w lo va live) : Calls Tryz.prog 20 #[ptr b, I x] w fun e w' => e = .returned (.tuple #[]) ∧ ∃ v', Blk w' b 31 [pv, v', vr] ∧ Lf w' w.heap.size v' (noX x live) ∧ Chg (fun k => k = b) w w' := by
  obtain ⟨aa, ac, rfl⟩ := hl.form
  have HB := hide hb; have HL := hide hl
  clear hb hl
  go_enter Tryz.func20, Tryz.ntmps20
  go_wp2
  go_loopw [4, 5] (fun u i wr => ∃ n : Nat, n ≤ live.length ∧ i = I (n : Int) ∧ wr.ownsRow w.heap.size 41 2 u (noX x (live.take n)).length (qc (noX x (live.take n))) ∧ G w wr) (fun _ i _ => live.length - (RowKit.intOf i).toNat)
  case atStart => exact ⟨0, Nat.zero_le _, rfl, ⟨rfl, .inl ⟨rfl, rfl⟩⟩, G.refl _⟩
  case round =>
    obtain ⟨n, hn, rfl, hrow, hgw⟩ := hrel
    have hbc := (HB.out.G hgw).cell
    by_cases hlt : n < live.length
    · obtain ⟨⟨c1, c2⟩, hc⟩ : ∃ a, live[n]? = some a := ⟨_, List.getElem?_eq_getElem hlt⟩
      have hLw : Lf wr lo (.slice aa live.length ac) live := ⟨own_G HL.out.1 hgw, HL.out.2⟩
      obtain ⟨ga, hga, k1, k2⟩ := hLw.at hc
      subst hga
      have hnI : (n : Int) < (live.length : Int) := by omega
      have hwn : wrap64 ((n : Int) + 1) = (n : Int) + 1 := by have := HL.out.2; unfold wrap64; omega
      have HWN := hide hwn
      have hsn := noX_snoc (x := x) hc
      have hlen : (noX x (live.take n)).length < 4100000000000 := by
        have h1 := noX_len x (live.take n)
        have h2 := HL.out.2
        rw [List.length_take] at h1
        omega
      have HGW := hide hgw; have HROW := hide hrow; have HLT := hide hlt
      by_cases hx : c1 = x
      · rw [if_pos hx] at hsn
        have HSN := hide hsn
        have hxd : ¬ (c1 ≠ x) := fun hh => hh hx
        rw [hx] at k1
        clear hsn hLw hgw hrow hc hlt hlen hn hwn hx hxd
        go_wp2
        exact ⟨⟨n + 1, HLT.out, by rw [HWN.out]; exact rl1 n, by rw [HSN.out]; exact HROW.out, HGW.out⟩, by rw [HWN.out]; exact ms_end HLT.out⟩
      · rw [if_neg hx] at hsn
        have HSN := hide hsn
        obtain ⟨v9, w9, r1, r2, r3⟩ := app_life wr w.heap.size u4 _ c1 c2 hrow hlen hgw.size
        have HG9 : Hid (G w w9) := grown_G (hgw.alloc _) r3 (fun b hb => (World.ownsRow.lt hrow b hb).1)
        have HR1 := hide r1; have HR2 := hide r2
        clear hsn hLw hgw hrow hc hlt hlen hn hwn r1 r2 r3
        go_wp2_with (first | (at_builtin; refine wpList_append_run rfl _ _ 28 rfl _ _ rfl rfl HR1.out ?_) | fail)
        exact ⟨⟨n + 1, HLT.out, by rw [HWN.out]; exact rl1 n, by rw [HSN.out]; exact HR2.out, HG9.out⟩, by rw [HWN.out]; exact ms_end HLT.out⟩
    · have hne : n = live.length := by omega
      subst hne
      have hfz := (HB.out.G hgw).frozen
      rw [List.take_length] at hrow
      obtain ⟨ua, uc, rfl⟩ := row_form hrow
      have HROW := hide hrow; have HGW := hide hgw
      have hnI : ¬ ((live.length : Int) < (live.length : Int)) := by omega
      clear hn hlt hrow hgw
      go_wp2
      go_end0
      refine ⟨rfl, _, (HB.out.G HGW.out).set 1 _, ⟨own_chg HROW.out (chgk wr b 1 _) (fun k hk e => ?_), ?_⟩, HGW.out.chg.trans (chgk wr b 1 _)⟩
      · have h1 := (World.ownsRow.lt HROW.out k hk).1
        have h2 := HB.out.lt
        omega
      · have h1 := noX_len x live
        have h2 := HL.out.2
        omega
end
open Go.RowKit

def takB (n : Int) (live : List (Int × Int)) : Bool := live.any fun a => a.1 == n || a.2 == n
theorem takB_snoc {n : Int} {live : List (Int × Int)} {j : Nat} {a : Int × Int} (h : live[j]? = some a) : takB n (live.take (j + 1)) = (takB n (live.take j) || (a.1 == n || a.2 == n)) := by
  unfold takB
  rw [List.take_add_one, h, List.any_append]
  simp
theorem takB_no {n : Int} {live : List (Int × Int)} (h : takB n live = false) : ∀ a ∈ live, a.1 ≠ n ∧ a.2 ≠ n := fun a ha => by
  unfold takB at h
  rw [List.any_eq_false] at h
  have := h a ha
  simpa using this
/-- Not all of the first 2 n + 1 numbers are taken. -/
theorem takB_all {live : List (Int × Int)} (h : ∀ j : Nat, 1 ≤ j → j ≤ 2 * live.length + 1 → takB (j : Int) live = true) : False := by
  have h1 := nodup_len ((List.range (2 * live.length + 1)).map fun (j : Nat) => ((j : Int) + 1)) (live.map Prod.fst ++ live.map Prod.snd) (by
    rw [List.pairwise_map]
    exact (List.nodup_range).imp (fun {a b} hab e => hab (by omega))) (fun x hx => by
    obtain ⟨j, hj, rfl⟩ := List.mem_map.1 hx
    rw [List.mem_range] at hj
    have h2 := h (j + 1) (by omega) (by omega)
    unfold takB at h2
    obtain ⟨a, ha, hb⟩ := List.any_eq_true.1 h2
    rw [Bool.or_eq_true] at hb
    rcases hb with hb | hb
    · have hb : a.1 = ((j + 1 : Nat) : Int) := by simpa using hb
      exact List.mem_append_left _ (List.mem_map.2 ⟨a, ha, by rw [hb]; omega⟩)
    · have hb : a.2 = ((j + 1 : Nat) : Int) := by simpa using hb
      exact List.mem_append_right _ (List.mem_map.2 ⟨a, ha, by rw [hb]; omega⟩))
  rw [List.length_map, List.length_range, List.length_append, List.length_map, List.length_map] at h1
  omega
set_option maxRecDepth 100000 in
set_option maxHeartbeats 1000000 in
theorem free_any (b : Nat) (pv va vr : Value) (lo : Nat) (live : List (Int × Int)) (w : World) (hb : Blk w b 31 [pv, va, vr]) (hl : Lf w lo va live) : Calls Tryz.prog 13 #[ptr b] w fun e w' => (∃ n : Int, e = .returned (I n) ∧ 1 ≤ n ∧ n ≤ 2 * live.length + 1 ∧ ∀ a ∈ live, a.1 ≠ n ∧ a.2 ≠ n) ∧ w' = w := by
  obtain ⟨aa, ac, rfl⟩ := hl.form
  have hbc := hb.cell
  have HL := hide hl
  have hmul : wrap64 (2 * (live.length : Int)) = 2 * (live.length : Int) := by have := HL.out.2; unfold wrap64; omega
  clear hb hl
  go_enter Tryz.func13, Tryz.ntmps13
  go_wp2
  go_loopw [3, 4] (fun nv kv wr => ∃ k : Nat, k ≤ 2 * live.length + 1 ∧ nv = I ((k : Int) + 1) ∧ kv = I (k : Int) ∧ wr = w ∧ ∀ j : Nat, 1 ≤ j → j ≤ k → takB (j : Int) live = true) (fun _ kv _ => 2 * live.length + 1 - (RowKit.intOf kv).toNat)
  case atStart => exact ⟨0, Nat.zero_le _, rfl, rfl, rfl, fun j h1 h2 => by omega⟩
  case round =>
    obtain ⟨k, hk, rfl, rfl, rfl, hal⟩ := hrel
    have hle : k ≤ 2 * live.length := by
      refine Decidable.byContradiction fun hh => takB_all (live := live) (fun j h1 h2 => hal j h1 (by omega))
    have hleI : (k : Int) ≤ 2 * (live.length : Int) := by omega
    have HAL := hide hal; have HLE := hide hle
    clear hal hk hle
    go_wp2
    go_loopw [5, 6] (fun tv iv wi => ∃ j : Nat, j ≤ live.length ∧ tv = .bool (takB ((k : Int) + 1) (live.take j)) ∧ iv = I (j : Int) ∧ wi = wr) (fun _ iv _ => live.length - (RowKit.intOf iv).toNat)
    case atStart => exact ⟨0, Nat.zero_le _, rfl, rfl, rfl⟩
    case round =>
      obtain ⟨j, hj, rfl, rfl, rfl⟩ := hrel
      by_cases hlt : j < live.length
      · obtain ⟨⟨c1, c2⟩, hc⟩ : ∃ a, live[j]? = some a := ⟨_, List.getElem?_eq_getElem hlt⟩
        obtain ⟨ga, hga, k1, k2⟩ := HL.out.at hc
        subst hga
        have hnI : (j : Int) < (live.length : Int) := by omega
        have hwn : wrap64 ((j : Int) + 1) = (j : Int) + 1 := by have := HL.out.2; unfold wrap64; omega
        have HWN := hide hwn
        have hsn := takB_snoc (n := (k : Int) + 1) hc
        have HLT := hide hlt
        clear hc hlt hj hwn
        cases ht : takB ((k : Int) + 1) (live.take j) with
        | true =>
          rw [ht, Bool.true_or] at hsn
          have HSN := hide hsn
          clear hsn ht
          go_wp2
          exact ⟨⟨j + 1, HLT.out, by rw [HSN.out], by rw [HWN.out]; exact rl1 j, trivial⟩, by rw [HWN.out]; exact ms_end HLT.out⟩
        | false =>
          rw [ht, Bool.false_or] at hsn
          by_cases h1 : c1 = (k : Int) + 1
          · have HSN : Hid (takB ((k : Int) + 1) (live.take (j + 1)) = true) := by unfold Hid; rw [hsn]; simp [h1]
            rw [h1] at k1
            clear hsn ht h1
            go_wp2
            exact ⟨⟨j + 1, HLT.out, by rw [HSN.out], by rw [HWN.out]; exact rl1 j, trivial⟩, by rw [HWN.out]; exact ms_end HLT.out⟩
          · have hd1 : (c1 == (k : Int) + 1) = false := by simp [h1]
            have hd2 : decide (c1 = (k : Int) + 1) = false := by simp [h1]
            by_cases h2 : c2 = (k : Int) + 1
            · have HSN : Hid (takB ((k : Int) + 1) (live.take (j + 1)) = true) := by unfold Hid; rw [hsn]; simp [h2]
              rw [h2] at k2
              clear hsn ht h1 h2
              go_wp2
              exact ⟨⟨j + 1, HLT.out, by rw [HSN.out], by rw [HWN.out]; exact rl1 j, trivial⟩, by rw [HWN.out]; exact ms_end HLT.out⟩
            · have HSN : Hid (takB ((k : Int) + 1) (live.take (j + 1)) = false) := by unfold Hid; rw [hsn]; simp [h1, h2]
              have hd3 : (c2 == (k : Int) + 1) = false := by simp [h2]
              have hd4 : decide (c2 = (k : Int) + 1) = false := by simp [h2]
              clear hsn ht h1 h2
              go_wp2
              exact ⟨⟨j + 1, HLT.out, by rw [HSN.out], by rw [HWN.out]; exact rl1 j, trivial⟩, by rw [HWN.out]; exact ms_end HLT.out⟩
      · have hne : j = live.length := by omega
        subst hne
        have hnI : ¬ ((live.length : Int) < (live.length : Int)) := by omega
        rw [List.take_length]
        clear hj hlt
        cases ht : takB ((k : Int) + 1) live with
        | true =>
          have HT := hide ht
          have hw1 : wrap64 ((k : Int) + 1) = (k : Int) + 1 := by have := HL.out.2; have := HLE.out; unfold wrap64; omega
          have hw2 : wrap64 ((k : Int) + 1 + 1) = (k : Int) + 1 + 1 := by have := HL.out.2; have := HLE.out; unfold wrap64; omega
          have HW1 := hide hw1; have HW2 := hide hw2
          clear ht hw1 hw2
          go_wp2
          exact ⟨⟨k + 1, by have := HLE.out; omega, by rw [HW2.out]; simp, by rw [HW1.out]; exact rl1 k, trivial, fun j h1 h2 => by
            by_cases e : j = k + 1
            · subst e
              have := HT.out
              rw [show (((k + 1 : Nat) : Int)) = (k : Int) + 1 by omega]; exact this
            · exact HAL.out j h1 (by omega)⟩, by rw [HW1.out]; have := HLE.out; simp only [RowKit.intOf]; omega⟩
        | false =>
          have HT := hide ht
          clear ht
          go_wp2
          go_ret
          exact ⟨⟨(k : Int) + 1, rfl, by omega, by have := HLE.out; omega, fun a c hac => takB_no HT.out (a, c) hac⟩, rfl⟩
end
open Go.RowKit

theorem app_res3 (w7 : World) (lo : Nat) (u : Value) (rs : List Rs) (r : Rs) (hu : w7.ownsRow lo 24 3 u rs.length (rc rs)) (hl : rs.length < 4100000000000) (hlo : lo ≤ w7.heap.size) :
    ∃ v' w9, (Builtin.append_ #[29, 29] 29 #[u, .slice (some ⟨w7.heap.size, 0, none⟩) 1 1]).run Tryz.prog (w7.alloc (.cells #[I r.lv, .string r.lb, I r.id] 24)) = .ok v' w9 ∧ w9.ownsRow lo 24 3 v' (rs ++ [r]).length (rc (rs ++ [r])) ∧ (w7.alloc (.cells #[I r.lv, .string r.lb, I r.id] 24)).grownBy w9 u.ownBlock ∧ (v'.ownBlock = u.ownBlock ∨ v'.ownBlock = some (w7.alloc (.cells #[I r.lv, .string r.lb, I r.id] 24)).heap.size) := by
  obtain ⟨i0, hi, hz0, hz1, hz2⟩ := info_parts (show (Tryz.prog.info? 24).map (fun i => (i.zero, i.size, i.bytes)) = some (some (.agg #[.int .i64 0, .string ByteArray.empty, .int .i64 0]), 3, 32) from by kernel_rfl)
  have hmx : (4100000000001 : Nat) ≤ maxLen := of_decide_eq_true (by kernel_rfl)
  have gA : G w7 (w7.alloc (.cells #[I r.lv, .string r.lb, I r.id] 24)) := (G.refl w7).alloc _
  have hb := (Blk.new w7 (rcel r) 24)
  have hu2 : (w7.alloc (.cells #[I r.lv, .string r.lb, I r.id] 24)).ownsRow lo 24 3 u rs.length (rc rs) := own_G hu gA
  obtain ⟨v', w9, q1, q2, q3, -, q5⟩ := run_append_own_at (P := Tryz.prog) (w := w7.alloc (.cells #[I r.lv, .string r.lb, I r.id] 24)) lo 29 29 24 i0 _ 3 32 Tryz.underlying29 hi hz0 hz1 hz2 rfl (by decide) u _ _ hu2 ⟨w7.heap.size, 0, none⟩ 1 1 (rcel r) (by simp [rcel]) (fun j u hj => by
    have := hb.cell j
    rw [hj] at this
    rw [Addr.add_mid, Nat.zero_add]; exact this) (fun u hu => by simp [rcel] at hu; rcases hu with rfl | rfl | rfl <;> rfl) (by omega) (by omega) (Nat.le_trans hlo gA.size)
  refine ⟨v', w9, q1, ?_, q3, q5⟩
  rw [rc_snoc, List.length_append]
  exact q2
set_option maxRecDepth 100000 in
set_option maxHeartbeats 1000000 in
theorem met_any (b : Nat) (pv va vr : Value) (lo : Nat) (res : List Rs) (r : Rs) (w : World) (hb : Blk w b 31 [pv, va, vr]) (hl : w.ownsRow lo 24 3 vr res.length (rc res)) (hlen : res.length < 2000000000000) (hblo : b < lo) (hlo : lo ≤ w.heap.size) : Calls Tryz.prog 48 #[ptr b, r.v] w fun e w' => e = .returned (.tuple #[]) ∧ ((r ∈ res ∧ G w w') ∨ (r ∉ res ∧ ∃ v', Blk w' b 31 [pv, va, v'] ∧ w'.ownsRow lo 24 3 v' (res.length + 1) (rc (res ++ [r])) ∧ (∀ k, v'.ownBlock = some k → vr.ownBlock = some k ∨ w.heap.size ≤ k) ∧ Chg (fun k => k = b ∨ vr.ownBlock = some k) w w')) := by
  obtain ⟨aa, ac, rfl⟩ := row_form hl
  have g1 : G w (w.alloc (.cells #[I r.lv, .string r.lb, I r.id] 24)) := (G.refl w).alloc _
  have HB := hide hb; have HL := hide hl; have HLEN := hide hlen; have HG1 := hide g1; have HLO := hide hlo; have HBL := hide hblo
  have HX := hide (Blk.new w [I r.lv, .string r.lb, I r.id] 24)
  clear hb hl hlen g1 hlo hblo
  simp only [Rs.v]
  go_enter Tryz.func48, Tryz.ntmps48
  go_wp2
  go_loopw [4] (fun i wr => ∃ n : Nat, n ≤ res.length ∧ i = I (n : Int) ∧ G (w.alloc (.cells #[I r.lv, .string r.lb, I r.id] 24)) wr ∧ r ∉ res.take n) (fun i _ => res.length - (RowKit.intOf i).toNat)
  case atStart => exact ⟨0, Nat.zero_le _, rfl, G.refl _, by simp⟩
  case round =>
    obtain ⟨n, hn, rfl, hgx, hno⟩ := hrel
    have hgw := HG1.out.trans hgx
    have hbc := (HB.out.G hgw).cell
    have hxc := (HX.out.G hgx).cell
    have HGX := hide hgx; have HGW := hide hgw; have HNO := hide hno
    clear hgx hgw hno
    by_cases hlt : n < res.length
    · obtain ⟨c, hc⟩ : ∃ a, res[n]? = some a := ⟨_, List.getElem?_eq_getElem hlt⟩
      have hrw := own_G HL.out HGW.out
      obtain ⟨ga, hga, k1, k2, k3⟩ : ∃ ga, aa = some ⟨ga, 0, none⟩ ∧ wr.cell? ⟨ga, n * 3, none⟩ = some (I c.lv) ∧ wr.cell? ⟨ga, n * 3 + 1, none⟩ = some (.string c.lb) ∧ wr.cell? ⟨ga, n * 3 + 2, none⟩ = some (I c.id) := by
        have h2 := hrw
        rcases h2.2 with ⟨e, e2⟩ | ⟨ga, cap, cur, e, -⟩
        · omega
        · have e3 : aa = some ⟨ga, 0, none⟩ := by cases e; rfl
          rw [e] at h2
          refine ⟨ga, e3, ?_, ?_, ?_⟩
          · rw [h2.cellAt _ (by omega)]; exact rc_at res n c hc 0 _ rfl
          · rw [h2.cellAt _ (by omega)]; exact rc_at res n c hc 1 _ rfl
          · rw [h2.cellAt _ (by omega)]; exact rc_at res n c hc 2 _ rfl
      subst hga
      have hnI : (n : Int) < (res.length : Int) := by omega
      have hwn : wrap64 ((n : Int) + 1) = (n : Int) + 1 := by have := HLEN.out; unfold wrap64; omega
      have HWN := hide hwn
      have HLT := hide hlt; have HC := hide hc
      clear hc hlt hn hwn hrw
      by_cases hcr : c = r
      · subst hcr
        go_wp2
        go_quiet (fail)
        generalize hV : World.drewN wr _ = V
        have HGV : Hid (G wr V) := by rw [← hV]; exact (G.refl wr).drewN _
        clear hV hbc hxc k1 k2 k3
        go_wp2
        refine bodyPost_ret (v := .tuple #[]) (by simp [results, Tryz.results48, go_sem]) rfl ⟨rfl, .inl ⟨List.mem_of_getElem? HC.out, HGW.out.trans HGV.out⟩⟩
      · have HNN : Hid (r ∉ res.take (n + 1)) := fun hh => by
          rw [List.take_add_one, HC.out] at hh
          rcases List.mem_append.1 hh with hh | hh
          · exact HNO.out hh
          · simp at hh; exact hcr hh.symm
        by_cases e1 : c.lv = r.lv
        · by_cases e2 : c.lb = r.lb
          · have e3 : ¬ c.id = r.id := fun e3 => hcr (by cases c; cases r; simp at e1 e2 e3; simp [e1, e2, e3])
            rw [e1] at k1
            rw [e2] at k2
            have d3 : decide (c.id = r.id) = false := by simp [e3]
            have d4 : (c.id == r.id) = false := by simp [e3]
            clear hcr e1 e2
            go_wp2
            go_quiet (fail)
            generalize hV : World.drewN wr _ = V
            have HGV : Hid (G wr V) := by rw [← hV]; exact (G.refl wr).drewN _
            clear hV hbc hxc k1 k2 k3
            go_wp2
            exact ⟨⟨n + 1, HLT.out, by rw [HWN.out]; exact rl1 n, HGX.out.trans HGV.out, HNN.out⟩, by rw [HWN.out]; exact ms_end HLT.out⟩
          · rw [e1] at k1
            have d2 : ¬ c.lb.toList = r.lb.toList := fun e => e2 (toList_inj e)
            clear hcr e1
            go_wp2
            go_quiet (fail)
            generalize hV : World.drewN wr _ = V
            have HGV : Hid (G wr V) := by rw [← hV]; exact (G.refl wr).drewN _
            clear hV hbc hxc k1 k2 k3
            go_wp2
            exact ⟨⟨n + 1, HLT.out, by rw [HWN.out]; exact rl1 n, HGX.out.trans HGV.out, HNN.out⟩, by rw [HWN.out]; exact ms_end HLT.out⟩
        · have d3 : decide (c.lv = r.lv) = false := by simp [e1]
          have d4 : (c.lv == r.lv) = false := by simp [e1]
          clear hcr
          go_wp2
          go_quiet (fail)
          generalize hV : World.drewN wr _ = V
          have HGV : Hid (G wr V) := by rw [← hV]; exact (G.refl wr).drewN _
          clear hV hbc hxc k1 k2 k3
          go_wp2
          exact ⟨⟨n + 1, HLT.out, by rw [HWN.out]; exact rl1 n, HGX.out.trans HGV.out, HNN.out⟩, by rw [HWN.out]; exact ms_end HLT.out⟩
    · have hne : n = res.length := by omega
      subst hne
      have hnI : ¬ ((res.length : Int) < (res.length : Int)) := by omega
      clear hn hlt
      have HG6 : Hid (G wr (wr.alloc (.cells #[I r.lv, .string r.lb, I r.id] 24)).drew) := ((G.refl wr).alloc _).drew
      obtain ⟨v9, w9, r1, r2, r3, r4⟩ := app_res3 wr.drew lo (.slice aa res.length ac) res r (own_G HL.out (HGW.out.drew)) (by have := HLEN.out; omega) (Nat.le_trans HLO.out (HGW.out.drew).size)
      have HR1 : Hid ((Builtin.append_ #[29, 29] 29 #[.slice aa res.length ac, .slice (some ⟨wr.heap.size, 0, none⟩) 1 1]).run Tryz.prog (wr.alloc (.cells #[I r.lv, .string r.lb, I r.id] 24)).drew = .ok v9 w9) := r1
      have hcg : Chg (fun k => (Value.slice aa res.length ac).ownBlock = some k) (wr.alloc (.cells #[I r.lv, .string r.lb, I r.id] 24)).drew w9 := ⟨r3.os, r3.tape, r3.output, r3.size, fun k hk hn => r3.block k hk (fun e => hn e.symm)⟩
      have HCG := hide hcg
      have HB9 : Hid (Blk w9 b 31 [pv, va, .slice aa res.length ac]) := (HB.out.G (HGW.out.trans HG6.out)).chg hcg (fun e => by have h1 := (World.ownsRow.lt HL.out b e).1; have h2 := HBL.out; omega)
      have HX9 : Hid (Blk w9 w.heap.size 24 [I r.lv, .string r.lb, I r.id]) := (HX.out.G (HGX.out.trans HG6.out)).chg hcg (fun e => by have h1 := (World.ownsRow.lt HL.out _ e).2; omega)
      rw [show (res ++ [r]).length = res.length + 1 by simp] at r2
      have HR4 : Hid (∀ k, v9.ownBlock = some k → (Value.slice aa res.length ac).ownBlock = some k ∨ w.heap.size ≤ k) := fun k hk => by
        rcases r4 with e | e
        · exact .inl (by rw [← e]; exact hk)
        · rw [hk] at e
          have h1 := Option.some.inj e
          have h2 : w.heap.size ≤ (wr.drew.alloc (.cells #[I r.lv, .string r.lb, I r.id] 24)).heap.size := (HGW.out.drew.alloc _).size
          exact .inr (by rw [h1]; exact h2)
      obtain ⟨va9, vc9, rfl⟩ := row_form r2
      have HR2 := hide r2
      clear r1 r2 r3 r4 hcg
      go_wp2
      refine wp_region_noPanic ?_
      refine wp_region_L (S := (fun V => (∀ j, V.cell? ⟨b, j, none⟩ = ([pv, va, .slice aa res.length ac] : List Value)[j]?) ∧ (∀ j, V.cell? ⟨w.heap.size, j, none⟩ = ([I r.lv, .string r.lb, I r.id] : List Value)[j]?))) 10 (by kernel_rfl) (⟨(HB.out.G (HGW.out.trans (G.drew (G.refl _)))).cell, (HX.out.G (HGX.out.trans (G.drew (G.refl _)))).cell⟩) (fun hHeld => ?_)
      refine wpAnyL_take (i := 0) (v := ?_) rfl (by kernel_rfl) (by kernel_rfl) (by kernel_rfl) (by kernel_rfl) (fun _ _ _ h => h) (Or.inl ⟨by rfl, ?_⟩) hHeld ?_
      rotate_left 1
      · (intro w hSw; obtain ⟨q1, q2⟩ := hSw; go_simp; try with_reducible rfl)
      try simp only [Act.put, List.getElem_toArray, List.getElem_cons_zero, List.setIfInBounds_toArray]
      refine wpAnyL_take (i := 1) (v := ?_) rfl (by kernel_rfl) (by kernel_rfl) (by kernel_rfl) (by kernel_rfl) (fun _ _ _ h => h) (Or.inl ⟨by rfl, ?_⟩) hHeld ?_
      rotate_left 1
      · (intro w hSw; obtain ⟨q1, q2⟩ := hSw; go_simp; try with_reducible rfl)
      try simp only [Act.put, List.getElem_toArray, List.getElem_cons_zero, List.getElem_cons_succ, List.setIfInBounds_toArray, List.set_cons_zero, List.set_cons_succ]
      refine wpAnyL_take (i := 2) (v := ?_) rfl (by kernel_rfl) (by kernel_rfl) (by kernel_rfl) (by kernel_rfl) (fun _ _ _ h => h) (Or.inl ⟨by rfl, ?_⟩) hHeld ?_
      rotate_left 1
      · (intro w hSw; obtain ⟨q1, q2⟩ := hSw; go_simp; try with_reducible rfl)
      try simp only [Act.put, List.getElem_toArray, List.getElem_cons_zero, List.getElem_cons_succ, List.setIfInBounds_toArray, List.set_cons_zero, List.set_cons_succ]
      refine wpAnyL_take (i := 3) (v := ?_) rfl (by kernel_rfl) (by kernel_rfl) (by kernel_rfl) (by kernel_rfl) (fun _ _ _ h => h) (Or.inl ⟨by rfl, ?_⟩) hHeld ?_
      rotate_left 1
      · (intro w hSw; obtain ⟨q1, q2⟩ := hSw; go_simp; try with_reducible rfl)
      try simp only [Act.put, List.getElem_toArray, List.getElem_cons_zero, List.getElem_cons_succ, List.setIfInBounds_toArray, List.set_cons_zero, List.set_cons_succ]
      refine wpAnyL_take (i := 4) (v := ?_) rfl (by kernel_rfl) (by kernel_rfl) (by kernel_rfl) (by kernel_rfl) (fun _ _ _ h => h) (Or.inl ⟨by rfl, ?_⟩) hHeld ?_
      rotate_left 1
      · (intro w hSw; obtain ⟨q1, q2⟩ := hSw; go_simp; try with_reducible rfl)
      try simp only [Act.put, List.getElem_toArray, List.getElem_cons_zero, List.getElem_cons_succ, List.setIfInBounds_toArray, List.set_cons_zero, List.set_cons_succ]
      refine wpAnyL_take (i := 5) (v := ?_) rfl (by kernel_rfl) (by kernel_rfl) (by kernel_rfl) (by kernel_rfl) (fun _ _ _ h => h) (Or.inl ⟨by rfl, ?_⟩) hHeld ?_
      rotate_left 1
      · (intro w hSw; obtain ⟨q1, q2⟩ := hSw; go_simp; try with_reducible rfl)
      try simp only [Act.put, List.getElem_toArray, List.getElem_cons_zero, List.getElem_cons_succ, List.setIfInBounds_toArray, List.set_cons_zero, List.set_cons_succ]
      refine wpAnyL_one (i := 6) (by kernel_rfl) rfl (by kernel_rfl) (fun K hK => ?_)
      clear hHeld
      go_simp
      refine hK.out _ _ (⟨(HB.out.G (HGW.out.trans HG6.out)).cell, (HX.out.G (HGX.out.trans HG6.out)).cell⟩) (fun hHeld => ?_)
      clear hK K
      try simp only [Act.put, List.getElem_toArray, List.getElem_cons_zero, List.getElem_cons_succ, List.setIfInBounds_toArray, List.set_cons_zero, List.set_cons_succ]
      refine wpAnyL_one (i := 7) (by kernel_rfl) rfl (by kernel_rfl) (fun K hK => ?_)
      clear hHeld
      refine (if_pos rfl).mpr ?_
      refine wp_of_exec (exec_append _ _ 29 rfl (.slice aa res.length ac) (.slice (some ⟨wr.heap.size, 0, none⟩) 1 1) rfl rfl 29 rfl HR1.out) ?_
      refine hK.out _ _ (⟨HB9.out.cell, HX9.out.cell⟩) (fun hHeld => ?_)
      clear hK K
      try simp only [Act.put, List.getElem_toArray, List.getElem_cons_zero, List.getElem_cons_succ, List.setIfInBounds_toArray, List.set_cons_zero, List.set_cons_succ]
      refine wpAnyL_take2 9 (i := 8) (v := ?_) rfl (by kernel_rfl) (by kernel_rfl) (by kernel_rfl) (by kernel_rfl) (fun _ _ _ h => h) (Or.inl ⟨by rfl, ?_⟩) hHeld ?_
      rotate_left 1
      · (intro w hSw; (try dsimp only at hSw); go_simp; try with_reducible rfl)
      try simp only [Act.put, List.getElem_toArray, List.getElem_cons_zero, List.getElem_cons_succ, List.setIfInBounds_toArray, List.set_cons_zero, List.set_cons_succ]
      refine wpAnyL_take (i := 9) (v := ?_) rfl (by kernel_rfl) (by kernel_rfl) (by kernel_rfl) (by kernel_rfl) (fun _ _ _ h => h) (Or.inl ⟨by rfl, ?_⟩) hHeld ?_
      rotate_left 1
      · (intro w hSw; (try dsimp only at hSw); go_simp; try with_reducible rfl)
      try simp only [Act.put, List.getElem_toArray, List.getElem_cons_zero, List.getElem_cons_succ, List.setIfInBounds_toArray, List.set_cons_zero, List.set_cons_succ]
      refine wpAnyL_last (by kernel_rfl) rfl (by kernel_rfl) (fun K hK => ?_)
      clear hHeld
      have hc7 := HB9.out.cell
      have hz7 := HB9.out.frozen
      go_simp
      refine hK.out _ _ ?_
      clear hK K
      refine NoPanic.normal ?_
      go_wp2
      go_end0
      refine ⟨rfl, .inr ⟨by have := HNO.out; rw [List.take_length] at this; exact this, _, HB9.out.set 2 _, own_chg HR2.out (chgk w9 b 2 _) (fun k hk e => ?_), HR4.out, ?_⟩⟩
      · have h1 := (World.ownsRow.lt HR2.out k hk).1
        have h2 := HBL.out
        omega
      · exact ((HGW.out.trans HG6.out).chg.trans (HCG.out.mono (fun k e => .inr e))).trans ((chgk w9 b 2 _).mono (fun k e => .inl e))
end Go.Proofs.YtkbgifhhnnfgoaaGreatDoor
