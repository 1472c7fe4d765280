/- The law decodes at no bytes; plays at its kind. -/
import Derived.Test.YtficmpaeochcgaaGreatDoorDec11
namespace Go.Proofs.YtficmpaeochcgaaGreatDoor
open Go.RowKit Go.Shelf Go.PlainAid Go.Lib

set_option maxRecDepth 100000 in
set_option maxHeartbeats 100000000 in
theorem dcs_none (kind op k a b : Int) (s : ByteArray) (k' a' b' : Int) (s' : ByteArray) (vs : Value) (st tt : ByteArray) (n x y o1 o2 : Int) (w : World) (hT : Tabs w) : Calls Tryz.prog 25 #[.agg #[I kind, I op, I k, I a, I b, .string s, I k', I a', I b', .string s', vs, .string st, .string tt, .slice none 0 0, I n, I x, I y, I o1, I o2]] w fun r w' => r = .returned (.bool true) ∧ G w w' := by
  obtain ⟨i0, hi, hz0, hz1, hz2⟩ := info_parts info_u8
  have hv := eqV
  go_enter Tryz.func25, Tryz.ntmps25
  go_wp2_with (at_builtin; refine wpList_append_own_none rfl _ _ 33 rfl 0 5 i0 1 Tryz.underlying33 hi _ 0 [] rfl (World.ownsRow_nil _ _ _ _) rfl ?_; refine Hid.out ?_)
  obtain ⟨w2, hw2⟩ : ∃ w2, w2 = w.alloc (.cells #[I kind, I op, I k, I a, I b, .string s, I k', I a', I b', .string s', vs, .string st, .string tt, .slice none 0 0, I n, I x, I y, I o1, I o2] 35) := ⟨_, rfl⟩
  have hB2 : Bw (w.alloc (.cells #[I kind, I op, I k, I a, I b, .string s, I k', I a', I b', .string s', vs, .string st, .string tt, .slice none 0 0, I n, I x, I y, I o1, I o2] 35)) w2 (.slice none 0 0) [] := by rw [hw2]; exact Bw.nil _ _ (G.refl _)
  have HB2 : Hid (Bw (w.alloc (.cells #[I kind, I op, I k, I a, I b, .string s, I k', I a', I b', .string s', vs, .string st, .string tt, .slice none 0 0, I n, I x, I y, I o1, I o2] 35)) w2 (.slice none 0 0) []) := hB2
  unfold Hid
  rw [← hw2]
  clear hw2 hB2
  have hs2 := HB2.out.g.size
  go_wp2_with (at_builtin; refine wpList_append_own _ rfl _ _ 33 rfl (w.alloc (.cells #[I kind, I op, I k, I a, I b, .string s, I k', I a', I b', .string s', vs, .string st, .string tt, .slice none 0 0, I n, I x, I y, I o1, I o2] 35)).heap.size 5 i0 (.int .u8 0) 1 1 Tryz.underlying33 hi hz0 hz1 hz2 rfl (by decide) _ 0 [] rfl (World.ownsRow.alloc HB2.out.own _) ⟨w2.heap.size, 0, none⟩ 3 3 [bv 201, bv 202, bv 203] rfl ?c0 ?c1 ?c2 ?c3 ?c4 ?c5 ?_)
  case c0 => rfl
  case c1 =>
    intro j u hj
    match j, hj with
    | 0, hj => simp at hj; subst hj; simp [Addr.add]
    | 1, hj => simp at hj; subst hj; simp [Addr.add]
    | 2, hj => simp at hj; subst hj; simp [Addr.add]
  case c2 => intro u hu; simp at hu; rcases hu with rfl | rfl | rfl <;> rfl
  case c3 => unfold maxLen; omega
  case c4 => omega
  case c5 => simp at hs2 ⊢; omega
  intro x4 w3 hown3 hgrow3 _
  have hB3 : Bw (w.alloc (.cells #[I kind, I op, I k, I a, I b, .string s, I k', I a', I b', .string s', vs, .string st, .string tt, .slice none 0 0, I n, I x, I y, I o1, I o2] 35)) w3 x4 ([] ++ [201, 202, 203]) := (HB2.out.keep ((G.refl _).alloc _)).app [201, 202, 203] 3 rfl (by simpa using hown3) hgrow3
  rw [List.nil_append] at hB3
  clear hown3 hgrow3 HB2 hs2
  rcases hB3.at with ⟨_, he⟩ | ⟨g, cap4, rfl, hg1, hg2, hcap4, hcells⟩
  · cases he
  have hcap4' : 3 ≤ cap4 := hcap4
  have hE3 : ∀ o, w3.cell? { block := w.heap.size, off := o } = [I kind, I op, I k, I a, I b, .string s, I k', I a', I b', .string s', vs, .string st, .string tt, .slice none 0 0, I n, I x, I y, I o1, I o2][o]? := G.cells hB3.g (fun o => by simp) (by simp)
  have hzE : w.heap.size < w3.heap.size := by have := hB3.g.size; simp at this; omega
  have hG3 : G w w3 := ((G.refl w).alloc _).trans hB3.g
  have hrowb : RowB w3 (.slice (some ⟨g, 0, none⟩) 0 cap4) [] := ⟨_, cap4, rfl, Nat.zero_le _, fun i d hi => by simp at hi⟩
  have HD : Hid (∀ W, G w3 W → Calls Tryz.prog 62 #[.slice (some ⟨g, 0, none⟩) 0 cap4] W (DecA [] W)) := fun W gg => dec_any _ [] W (hT.G (hG3.trans gg)) (hrowb.G gg) (by simp) (by simp)
  have HR : Hid (∀ W, G w3 W → Calls Tryz.prog 63 #[.slice none 0 0] W (DecA [] W)) := fun W gg => rde_any none 0 [] W (row_nil W) (by simp) (by simp) (Nat.zero_le _)
  have HS : Hid (∀ W, G w3 W → Calls Tryz.prog 13 #[.slice (some ⟨g, 0, none⟩) 0 cap4, .slice none 0 0] W fun e w' => e = .returned (.bool true) ∧ G W w') := fun W gg => same_wide _ _ [] W (hrowb.G gg) (row_nil W) (by simp)
  have hm1 := hcells 0 201 rfl
  have hm2 := hcells 1 202 rfl
  have hm3 := hcells 2 203 rfl
  have hsl := slice_front (some ⟨g, 0, none⟩) 3 cap4 0 (by omega)
  have HG3 : Hid (G w w3) := hG3
  clear hcells hrowb hB3 hG3 hg1 hcap4
  go_wp2_with fail
  refine (HD.out _ (G.refl _)).mono ?_
  rintro e w4 ⟨k1, a1, b1, s1, n1, c1, rfl, hda, hb4⟩
  have hE4 : ∀ o, w4.cell? { block := w.heap.size, off := o } = [I kind, I op, I k, I a, I b, .string s, I k', I a', I b', .string s', vs, .string st, .string tt, .slice none 0 0, I n, I x, I y, I o1, I o2][o]? := G.cells hb4 hE3 hzE
  have HG4 : Hid (G w3 w4) := hb4
  have hz4 : w3.heap.size ≤ w4.heap.size := hb4.size
  have hzE4 : w.heap.size < w4.heap.size := by omega
  have HDA : Hid _ := hda
  clear hb4 HD hE3 hda
  go_wp2_with fail
  refine (HR.out _ (HG4.out.alloc _)).mono ?_
  rintro e w5 ⟨k2, a2, b2, s2, n2, c2, rfl, hda2, hb5⟩
  obtain ⟨rfl, rfl, rfl, rfl, rfl, rfl⟩ := DAns.one HDA.out hda2
  have hc5 : ∀ o, w5.cell? { block := w4.heap.size, off := o } = [I k1, I a1, I b1, .string s1][o]? := G.cells hb5 (fun o => by simp) (by simp)
  have hz5 : w4.heap.size < w5.heap.size := by have := hb5.size; simp at this; omega
  have hzE5 : w.heap.size < w5.heap.size := by omega
  have HG5 : Hid (G w3 w5) := (HG4.out.alloc _).trans hb5
  have hE5 : ∀ o, w5.cell? { block := w.heap.size, off := o } = [I kind, I op, I k, I a, I b, .string s, I k', I a', I b', .string s', vs, .string st, .string tt, .slice none 0 0, I n, I x, I y, I o1, I o2][o]? := G.cells (((G.refl w4).alloc _).trans hb5) hE4 (by omega)
  clear hb5 HR hE4 hda2 HDA
  go_wp2_with fail
  refine (HS.out _ (HG5.out.alloc _)).mono ?_
  rintro e w6 ⟨rfl, hb6⟩
  have HG6 : Hid (G w3 w6) := (HG5.out.alloc _).trans hb6
  have hm1' : w6.cell? ⟨g, 0, none⟩ = some (bv 201) := (HG6.out.cell hg2).trans hm1
  have hm2' : w6.cell? ⟨g, 1, none⟩ = some (bv 202) := (HG6.out.cell hg2).trans hm2
  have hm3' : w6.cell? ⟨g, 2, none⟩ = some (bv 203) := (HG6.out.cell hg2).trans hm3
  have HG7 : Hid (G w w6) := HG3.out.trans HG6.out
  clear hb6 HS hm1 hm2 hm3 hE5 hc5 HG6 HG5 HG4 HG3
  go_wp2
  go_ret
  exact ⟨by simp, by repeat (first | exact G.refl _ | assumption | exact HG7.out | refine G.alloc ?_ _ | refine G.drewNE ?_ _ | refine G.drew ?_ | refine G.setCell ?_ (by simp) _)⟩
theorem dcs_all (e : Ent) (w : World) (hT : Tabs w) (h : BsOk w e.bb) : Calls Tryz.prog 25 #[e.V] w fun r w' => r = .returned (.bool true) ∧ G w w' := by
  obtain ⟨kind, op, k, a, b, s, k', a', b', s', vs, st, tt, bb, n, x, y, o1, o2⟩ := e
  simp only at h ⊢
  obtain ⟨p, cap, bs, rfl, hrow, hb, hl, hcap, hc⟩ := bs_list h
  rcases hc with ⟨rfl, rfl, rfl⟩ | ⟨ad, rfl, hfl⟩
  · exact dcs_none kind op k a b s k' a' b' s' vs st tt n x y o1 o2 w hT
  · exact dcs_some kind op k a b s k' a' b' s' vs st tt n x y o1 o2 w hT ad cap bs hfl hrow hb hl hcap
theorem BsOk.G {w w' : World} {x : Value} (h : BsOk w x) (g : G w w') : BsOk w' x := by
  rcases h with h | ⟨a, len, cap, f, rfl, h1, h2, h3⟩
  · exact .inl h
  · exact .inr ⟨a, len, cap, f, rfl, h1, h2, fun i hi => ⟨(Below.cell g (World.block_lt_of_cell? w _ (h3 i hi).1)).trans (h3 i hi).1, (h3 i hi).2⟩⟩
set_option maxRecDepth 100000 in
set_option maxHeartbeats 1000000 in
theorem plays_9 (e : Ent) (hk : e.kind = 9) (w : World) (hT : Tabs w) (h : BsOk w e.bb) : Calls Tryz.prog 10 #[e.V] w fun r w' => r = .returned (.bool true) ∧ G w w' := by
  have HF : Hid (∀ W, G w W → Calls Tryz.prog 25 #[e.V] W fun r w' => r = .returned (.bool true) ∧ G W w') := fun W g => dcs_all e W (hT.G g) (h.G g)
  obtain ⟨kind, op, k, a, b, s, k', a', b', s', vs, st, tt, bb, n, x, y, o1, o2⟩ := e
  simp only at hk
  subst hk
  clear h hT
  have hr : (w.alloc (.cells #[I 9, I op, I k, I a, I b, .string s, I k', I a', I b', .string s', vs, .string st, .string tt, bb, I n, I x, I y, I o1, I o2] 35)).rangeAt w.heap.size 0 [I 9, I op, I k, I a, I b, .string s, I k', I a', I b', .string s', vs, .string st, .string tt, bb, I n, I x, I y, I o1, I o2] := fun j v hv => by rw [Nat.zero_add]; simpa using hv
  go_enter Tryz.func10, Tryz.ntmps10
  go_wp2_with (first | (refine wpList_load_mid rfl 35 _ rfl w.heap.size 0 rfl [I 9, I op, I k, I a, I b, .string s, I k', I a', I b', .string s', vs, .string st, .string tt, bb, I n, I x, I y, I o1, I o2] _ hr Tryz.underlying35 rfl (by kernel_rfl) ?_) | (go_at_call 25; refine (HF.out _ ((G.refl w).alloc _)).mono ?_; rintro e w1 ⟨rfl, hb1⟩))
  go_wp2
  go_ret
  exact ⟨rfl, ((G.refl w).alloc _).trans hb1⟩
theorem decode_plays (W : World) (hT : Tabs W) (e : Ent) (h : EntOk W e) (h1 : 9 ≤ e.kind) (h2 : e.kind ≤ 9) (w' : World) (g : G W w') : Calls Tryz.prog 10 #[e.V] w' fun r w'' => r = .returned (.bool true) ∧ G w' w'' :=
  plays_9 e (by omega) w' (hT.G g) (h.bb.G g)
end Go.Proofs.YtficmpaeochcgaaGreatDoor
