/- The law decodes; plays at its kind. -/
import Derived.Test.YtficmpaeochcgaaGreatDoorDec10
import Derived.Laws.AppendOwnNone
namespace Go.Proofs.YtficmpaeochcgaaGreatDoor
open Go.RowKit Go.Shelf Go.PlainAid Go.Lib

theorem bs_list {w : World} {x : Value} (h : BsOk w x) : ∃ (p : Option Addr) (cap : Nat) (bs : List Nat), x = .slice p bs.length cap ∧ RowB w x bs ∧ (∀ d ∈ bs, d < 256) ∧ bs.length ≤ 140737488351232 ∧ bs.length ≤ cap ∧
    ((p = none ∧ bs = [] ∧ cap = 0) ∨ ∃ ad, p = some ad ∧ ∀ j u, (bs.map bv)[j]? = some u → w.cell? (ad.add j) = some u) := by
  rcases h with rfl | ⟨ad, len, cap, f, rfl, hlc, hb, hf⟩
  · exact ⟨none, 0, [], rfl, row_nil w, by simp, by simp, Nat.le_refl _, .inl ⟨rfl, rfl, rfl⟩⟩
  · have hl : ((List.range len).map fun i => (f i).toNat).length = len := by simp
    have hat : ∀ i d, ((List.range len).map fun i => (f i).toNat)[i]? = some d → i < len ∧ d = (f i).toNat := fun i d hi => by
      obtain ⟨h1, h2⟩ := List.getElem?_eq_some_iff.1 hi
      rw [hl] at h1
      exact ⟨h1, by simpa using h2.symm⟩
    have hc : ∀ i d, ((List.range len).map fun i => (f i).toNat)[i]? = some d → w.cell? (ad.add i) = some (bv d) := fun i d hi => by
      obtain ⟨h1, rfl⟩ := hat i d hi
      obtain ⟨h2, h3, h4⟩ := hf i (by omega)
      rw [h2]
      show some (Value.int .u8 (f i)) = some (Value.int .u8 _)
      congr 2; omega
    refine ⟨some ad, cap, _, by rw [hl], ⟨some ad, cap, by rw [hl], by rw [hl]; exact hlc, fun i d hi => ?_⟩, fun d hd => ?_, by rw [hl]; unfold reachBytes at hb; omega, by rw [hl]; exact hlc, .inr ⟨ad, rfl, fun j u hj => ?_⟩⟩
    · obtain ⟨h1, h2⟩ := hat i d hi
      have hsp : ad.spot = none := by
        have := World.cell?_spot (hf 0 (by omega)).1
        simpa [Addr.add] using this
      have := hc i d hi
      obtain ⟨b, o, sp⟩ := ad
      simp only at hsp
      subst hsp
      refine ⟨b, o, rfl, ?_⟩
      rwa [Go.WideShapes.add_plain] at this
    · obtain ⟨i, hi, rfl⟩ := List.mem_map.1 hd
      obtain ⟨_, h3, h4⟩ := hf i (by have := List.mem_range.1 hi; omega)
      omega
    · rw [List.getElem?_map] at hj
      obtain ⟨d, hd, rfl⟩ := Option.map_eq_some_iff.1 hj
      exact hc j d hd
theorem rde_any (p : Option Addr) (cap : Nat) (bs : List Nat) (w : World) (hx : RowB w (.slice p bs.length cap) bs) (hb : ∀ d ∈ bs, d < 256) (hl : bs.length ≤ 140737488355328) (hcap : bs.length ≤ cap) : Calls Tryz.prog 63 #[.slice p bs.length cap] w (DecA bs w) := by
  by_cases h0 : bs.length = 0
  · exact rde_nil p cap bs w h0
  · exact rde_some p cap bs w hx hb hl hcap (by omega)
set_option maxRecDepth 100000 in
set_option maxHeartbeats 100000000 in
theorem same_wide (a b : Value) (xs : List Nat) (w : World) (ha : RowB w a xs) (hb : RowB w b xs) (hx : xs.length ≤ 140737488355328) : Calls Tryz.prog 13 #[a, b] w fun e w' => e = .returned (.bool true) ∧ G w w' := by
  obtain ⟨pa, ca, rfl, hca, ha⟩ := ha
  obtain ⟨pb, cb, rfl, hcb, hb⟩ := hb
  have HA : Hid _ := ha
  have HB : Hid _ := hb
  clear ha hb
  go_enter Tryz.func13, Tryz.ntmps13
  go_wp2
  go_loopw [5] (fun i W => ∃ k : Nat, k ≤ xs.length ∧ i = .int .i64 k ∧ G w W) (fun i _ => xs.length - (RowKit.intOf i).toNat)
  case atStart => exact ⟨0, Nat.zero_le _, rfl, G.refl _⟩
  case round =>
    obtain ⟨k, hk, rfl, hG⟩ := hrel
    by_cases hlt : k < xs.length
    · obtain ⟨d, hd⟩ : ∃ d, xs[k]? = some d := ⟨_, List.getElem?_eq_getElem hlt⟩
      obtain ⟨g, o, hp, hcell⟩ := HA.out k d hd
      obtain ⟨g', o', hp', hcell'⟩ := HB.out k d hd
      have hc1 : wr.cell? ⟨g, o + k, none⟩ = some (bv d) := (hG.cell (cell_ltE hcell)).trans hcell
      have hc2 : wr.cell? ⟨g', o' + k, none⟩ = some (bv d) := (hG.cell (cell_ltE hcell')).trans hcell'
      have hkI : (k : Int) < (xs.length : Int) := by omega
      have HG : Hid _ := hG
      clear hG hd hcell hcell'
      subst hp hp'
      go_wp2
      go_quiet (fail)
      go_wp2
      go_roundw
      case rel => exact ⟨k + 1, by omega, by go_num, by repeat (first | exact HG.out | refine G.drewNE ?_ _ | refine G.drew ?_)⟩
      case measure => simp [RowKit.intOf]; omega
    · have hkI : ¬ (k : Int) < (xs.length : Int) := by omega
      have HG : Hid _ := hG
      clear hG
      go_wp2
      go_ret
      exact ⟨rfl, HG.out⟩
theorem at_201 (bs : List Nat) : (bs ++ [201, 202, 203])[bs.length]? = some 201 ∧ (bs ++ [201, 202, 203])[bs.length + 1]? = some 202 ∧ (bs ++ [201, 202, 203])[bs.length + 2]? = some 203 := by
  refine ⟨by simp, by simp, by simp⟩
set_option maxRecDepth 100000 in
set_option maxHeartbeats 100000000 in
theorem dcs_some (kind op k a b : Int) (s : ByteArray) (k' a' b' : Int) (s' : ByteArray) (vs : Value) (st tt : ByteArray) (n x y o1 o2 : Int) (w : World) (hT : Tabs w) (ad : Addr) (cap : Nat) (bs : List Nat) (hfl : ∀ j u, (bs.map bv)[j]? = some u → w.cell? (ad.add j) = some u) (hx : RowB w (.slice (some ad) bs.length cap) bs) (hb : ∀ d ∈ bs, d < 256) (hl : bs.length ≤ 140737488351232) (hcap : bs.length ≤ cap) : Calls Tryz.prog 25 #[.agg #[I kind, I op, I k, I a, I b, .string s, I k', I a', I b', .string s', vs, .string st, .string tt, .slice (some ad) bs.length cap, I n, I x, I y, I o1, I o2]] w fun r w' => r = .returned (.bool true) ∧ G w w' := by
  obtain ⟨i0, hi, hz0, hz1, hz2⟩ := info_parts info_u8
  have HX : Hid (RowB w (.slice (some ad) bs.length cap) bs) := hx
  have HB : Hid _ := hb
  have HFL : Hid _ := hfl
  clear hx hb hfl
  have hv := eqV
  go_enter Tryz.func25, Tryz.ntmps25
  go_wp2_with (at_builtin; refine wpList_append_own _ rfl _ _ 33 rfl (w.alloc (.cells #[I kind, I op, I k, I a, I b, .string s, I k', I a', I b', .string s', vs, .string st, .string tt, .slice (some ad) bs.length cap, I n, I x, I y, I o1, I o2] 35)).heap.size 5 i0 (.int .u8 0) 1 1 Tryz.underlying33 hi hz0 hz1 hz2 rfl (by decide) _ _ _ rfl (World.ownsRow_nil _ _ _ _) ad bs.length cap (bs.map bv) rfl ?c0 ?c1 ?c2 ?c3 ?c4 ?c5 ?_)
  case c0 => simp
  case c1 =>
    intro j u hj
    have h := HFL.out j u hj
    exact (Below.cell ((G.refl w).alloc _) (World.block_lt_of_cell? w _ h)).trans h
  case c2 => intro u hu; obtain ⟨d, _, rfl⟩ := List.mem_map.1 hu; rfl
  case c3 => unfold maxLen; omega
  case c4 => omega
  case c5 => first | exact Nat.le_refl _ | simp
  intro x3 w2 hown2 hgrow _
  have hB2 : Bw (w.alloc (.cells #[I kind, I op, I k, I a, I b, .string s, I k', I a', I b', .string s', vs, .string st, .string tt, .slice (some ad) bs.length cap, I n, I x, I y, I o1, I o2] 35)) w2 x3 ([] ++ bs) := (Bw.nil (w.alloc (.cells #[I kind, I op, I k, I a, I b, .string s, I k', I a', I b', .string s', vs, .string st, .string tt, .slice (some ad) bs.length cap, I n, I x, I y, I o1, I o2] 35)) (w.alloc (.cells #[I kind, I op, I k, I a, I b, .string s, I k', I a', I b', .string s', vs, .string st, .string tt, .slice (some ad) bs.length cap, I n, I x, I y, I o1, I o2] 35)) (G.refl _)).app bs bs.length rfl (by simpa using hown2) hgrow
  rw [List.nil_append] at hB2
  have HB2 : Hid (Bw (w.alloc (.cells #[I kind, I op, I k, I a, I b, .string s, I k', I a', I b', .string s', vs, .string st, .string tt, .slice (some ad) bs.length cap, I n, I x, I y, I o1, I o2] 35)) w2 x3 bs) := hB2
  clear hown2 hgrow hB2
  have hs2 := HB2.out.g.size
  go_wp2_with (at_builtin; refine wpList_append_own _ rfl _ _ 33 rfl (w.alloc (.cells #[I kind, I op, I k, I a, I b, .string s, I k', I a', I b', .string s', vs, .string st, .string tt, .slice (some ad) bs.length cap, I n, I x, I y, I o1, I o2] 35)).heap.size 5 i0 (.int .u8 0) 1 1 Tryz.underlying33 hi hz0 hz1 hz2 rfl (by decide) _ _ _ rfl (World.ownsRow.alloc HB2.out.own _) ⟨w2.heap.size, 0, none⟩ 3 3 [bv 201, bv 202, bv 203] rfl ?c0 ?c1 ?c2 ?c3 ?c4 ?c5 ?_)
  case c0 => rfl
  case c1 =>
    intro j u hj
    match j, hj with
    | 0, hj => simp at hj; subst hj; simp [Addr.add]
    | 1, hj => simp at hj; subst hj; simp [Addr.add]
    | 2, hj => simp at hj; subst hj; simp [Addr.add]
  case c2 => intro u hu; simp at hu; rcases hu with rfl | rfl | rfl <;> rfl
  case c3 => unfold maxLen; omega
  case c4 => omega
  case c5 => simp at hs2 ⊢; omega
  intro x4 w3 hown3 hgrow3 _
  have hB3 : Bw (w.alloc (.cells #[I kind, I op, I k, I a, I b, .string s, I k', I a', I b', .string s', vs, .string st, .string tt, .slice (some ad) bs.length cap, I n, I x, I y, I o1, I o2] 35)) w3 x4 (bs ++ [201, 202, 203]) := (HB2.out.keep ((G.refl _).alloc _)).app [201, 202, 203] 3 rfl (by simpa using hown3) hgrow3
  clear hown3 hgrow3 HB2 hs2
  rcases hB3.at with ⟨_, he⟩ | ⟨g, cap4, rfl, hg1, hg2, hcap4, hcells⟩
  · simp at he
  have hlen3 : (bs ++ [201, 202, 203]).length = bs.length + 3 := by simp
  rw [hlen3] at hcap4 ⊢
  have hE3 : ∀ o, w3.cell? { block := w.heap.size, off := o } = [I kind, I op, I k, I a, I b, .string s, I k', I a', I b', .string s', vs, .string st, .string tt, .slice (some ad) bs.length cap, I n, I x, I y, I o1, I o2][o]? := G.cells hB3.g (fun o => by simp) (by simp)
  have hzE : w.heap.size < w3.heap.size := by have := hB3.g.size; simp at this; omega
  have hG3 : G w w3 := ((G.refl w).alloc _).trans hB3.g
  have hrowb : RowB w3 (.slice (some ⟨g, 0, none⟩) bs.length cap4) bs := ⟨_, cap4, rfl, by omega, fun i d hi => ⟨g, 0, rfl, by
    rw [Nat.zero_add]
    exact hcells i d (by rw [List.getElem?_append_left (List.getElem?_eq_some_iff.1 hi).1]; exact hi)⟩⟩
  have HD : Hid (∀ W, G w3 W → Calls Tryz.prog 62 #[.slice (some ⟨g, 0, none⟩) bs.length cap4] W (DecA bs W)) := fun W gg => dec_any _ bs W (hT.G (hG3.trans gg)) (hrowb.G gg) HB.out (by omega)
  have HR : Hid (∀ W, G w3 W → Calls Tryz.prog 63 #[.slice (some ad) bs.length cap] W (DecA bs W)) := fun W gg => rde_any _ _ bs W (RowB.G HX.out (hG3.trans gg)) HB.out (by omega) hcap
  have HS : Hid (∀ W, G w3 W → Calls Tryz.prog 13 #[.slice (some ⟨g, 0, none⟩) bs.length cap4, .slice (some ad) bs.length cap] W fun e w' => e = .returned (.bool true) ∧ G W w') := fun W gg => same_wide _ _ bs W (hrowb.G gg) (RowB.G HX.out (hG3.trans gg)) (by omega)
  obtain ⟨m1, m2, m3⟩ := at_201 bs
  have hm1 := hcells _ _ m1
  have hm2 := hcells _ _ m2
  have hm3 := hcells _ _ m3
  have hsl := slice_front (some ⟨g, 0, none⟩) (bs.length + 3) cap4 bs.length (by omega)
  have HG3 : Hid (G w w3) := hG3
  clear hcells hrowb hB3 hG3 m1 m2 m3 hg1 HX HB
  have q1 : (bs.length : Int) < (bs.length : Int) + 3 := by omega
  have q2 : (bs.length : Int) + 1 < (bs.length : Int) + 3 := by omega
  have q3 : (bs.length : Int) + 2 < (bs.length : Int) + 3 := by omega
  go_wp2_with fail
  refine (HD.out _ (G.refl _)).mono ?_
  rintro e w4 ⟨k1, a1, b1, s1, n1, c1, rfl, hda, hb4⟩
  have hE4 : ∀ o, w4.cell? { block := w.heap.size, off := o } = [I kind, I op, I k, I a, I b, .string s, I k', I a', I b', .string s', vs, .string st, .string tt, .slice (some ad) bs.length cap, I n, I x, I y, I o1, I o2][o]? := G.cells hb4 hE3 hzE
  have HG4 : Hid (G w3 w4) := hb4
  have hz4 : w3.heap.size ≤ w4.heap.size := hb4.size
  have hzE4 : w.heap.size < w4.heap.size := by omega
  have HDA : Hid _ := hda
  clear hb4 HD hE3 hda
  go_wp2_with fail
  refine (HR.out _ (HG4.out.alloc _)).mono ?_
  rintro e w5 ⟨k2, a2, b2, s2, n2, c2, rfl, hda2, hb5⟩
  obtain ⟨rfl, rfl, rfl, rfl, rfl, rfl⟩ := DAns.one HDA.out hda2
  have hc5 : ∀ o, w5.cell? { block := w4.heap.size, off := o } = [I k1, I a1, I b1, .string s1][o]? := G.cells hb5 (fun o => by simp) (by simp)
  have hz5 : w4.heap.size < w5.heap.size := by have := hb5.size; simp at this; omega
  have hzE5 : w.heap.size < w5.heap.size := by omega
  have HG5 : Hid (G w3 w5) := (HG4.out.alloc _).trans hb5
  have hE5 : ∀ o, w5.cell? { block := w.heap.size, off := o } = [I kind, I op, I k, I a, I b, .string s, I k', I a', I b', .string s', vs, .string st, .string tt, .slice (some ad) bs.length cap, I n, I x, I y, I o1, I o2][o]? := G.cells (((G.refl w4).alloc _).trans hb5) hE4 (by omega)
  clear hb5 HR hE4 hda2 HDA
  go_wp2_with fail
  refine (HS.out _ (HG5.out.alloc _)).mono ?_
  rintro e w6 ⟨rfl, hb6⟩
  have HG6 : Hid (G w3 w6) := (HG5.out.alloc _).trans hb6
  have hm1' : w6.cell? ⟨g, bs.length, none⟩ = some (bv 201) := (HG6.out.cell hg2).trans hm1
  have hm2' : w6.cell? ⟨g, bs.length + 1, none⟩ = some (bv 202) := (HG6.out.cell hg2).trans hm2
  have hm3' : w6.cell? ⟨g, bs.length + 2, none⟩ = some (bv 203) := (HG6.out.cell hg2).trans hm3
  have HG7 : Hid (G w w6) := HG3.out.trans HG6.out
  clear hb6 HS hm1 hm2 hm3 hE5 hc5 HG6 HG5 HG4 HG3
  go_wp2
  go_ret
  exact ⟨by simp, by repeat (first | exact G.refl _ | assumption | exact HG7.out | refine G.alloc ?_ _ | refine G.drewNE ?_ _ | refine G.drew ?_ | refine G.setCell ?_ (by simp) _)⟩
end Go.Proofs.YtficmpaeochcgaaGreatDoor
