/- add at a book; handed, untouched. -/
import Derived.Test.YtbjbphhcmmaaoaaOw4
namespace Go.Proofs.Ytbjbphhcmmaaoaa
open Go.RowKit

theorem blk_row {W : World} {g : Nat} {e : TypeId} {xs : List Value} (h : Blk W g e xs) {n c : Nat} (hn : n ≤ c) (hc : xs.length = c) (hm : c ≤ maxLen) : W.ownsRow 0 e 1 (.slice (some ⟨g, 0, none⟩) n c) n (xs.take n) :=
  ⟨by rw [List.length_take]; omega, .inr ⟨g, c, xs.toArray, rfl, Nat.zero_le _, h.h, hn, hm, by simpa using hc, by simp⟩⟩
theorem tyB_ne {W : World} {a b : Nat} {e e' : TypeId} (h : TyB W a e) (h' : TyB W b e') (he : e ≠ e') : a ≠ b := fun hab => by
  obtain ⟨u, f, h⟩ := h
  obtain ⟨u', f', h'⟩ := h'
  subst hab
  rw [h] at h'
  simp at h'
  exact he h'.2.1
theorem TyB.lt {W : World} {a : Nat} {e : TypeId} (h : TyB W a e) : a < W.heap.size := by
  obtain ⟨u, f, h⟩ := h
  exact (Array.getElem?_eq_some_iff.1 h).1
/-- Lists that join a book: each a row of its own, apart from the book's lists and from each other. -/
structure NZ (W : World) (K : Nat → Prop) (k : Nat) (Z : Nat → Value) (ln : Nat → Nat) : Prop where
  o : ∀ t, t < k → ∃ xs, W.ownsRow 0 5 1 (Z t) (ln t) xs
  a : ∀ t, t < k → ∀ g, (Z t).ownBlock = some g → ¬ K g ∧ ∀ s, s < k → s ≠ t → (Z s).ownBlock ≠ some g
  l : ∀ t, t < k → ln t ≤ 1073741824
theorem BK.cut {W : World} {K R : Nat → Prop} {z bb nl nm ml mm : Nat} {X Y U V : Nat → Value} (h : BK W K R z bb nl nm ml mm X Y U V) : BK W (fun j => K j ∧ j < W.heap.size) (fun j => R j ∧ j < W.heap.size) z bb nl nm ml mm X Y U V := by
  obtain ⟨lv, mv, uv, vv, h1, h2, h3, h4, h5, h6, h7, h8⟩ := h.hd
  refine ⟨⟨lv, mv, uv, vv, h1, h2, h3, h4, h5, fun g hg => ⟨h6 g hg, ?_⟩, h7, h8⟩, fun i hi => ?_, fun i hi => ?_, ⟨h.b, h1.lt⟩, h.le1, h.le2, h.n1, h.n2⟩
  · rcases hg with hg | hg | hg | hg
    · exact own_lt2 h2 hg
    · exact own_lt2 h3 hg
    · exact own_lt2 h4 hg
    · exact own_lt2 h5 hg
  · obtain ⟨a, b, q1, q2, q3, q4, q5⟩ := h.e i hi
    exact ⟨a, b, q1, q2, q3, q4, fun j hj => ⟨⟨(q5 j hj).1, (q5 j hj).2.lt⟩, (q5 j hj).2⟩⟩
  · obtain ⟨a, b, q1, q2, q3, q4, q5⟩ := h.w i hi
    exact ⟨a, b, q1, q2, q3, q4, fun j hj => ⟨⟨(q5 j hj).1, (q5 j hj).2.lt⟩, (q5 j hj).2⟩⟩
theorem BK.mono {W : World} {K R K' R' : Nat → Prop} {z bb nl nm ml mm : Nat} {X Y U V : Nat → Value} (h : BK W K R z bb nl nm ml mm X Y U V) (hK : ∀ j, K j → K' j) (hR : ∀ j, R j → R' j) : BK W K' R' z bb nl nm ml mm X Y U V := by
  obtain ⟨lv, mv, uv, vv, h1, h2, h3, h4, h5, h6, h7, h8⟩ := h.hd
  refine ⟨⟨lv, mv, uv, vv, h1, h2, h3, h4, h5, fun g hg => hR g (h6 g hg), h7, h8⟩, fun i hi => ?_, fun i hi => ?_, hR _ h.b, h.le1, h.le2, h.n1, h.n2⟩
  · obtain ⟨a, b, q1, q2, q3, q4, q5⟩ := h.e i hi
    exact ⟨a, b, q1, q2, q3, q4, fun j hj => ⟨hK j (q5 j hj).1, (q5 j hj).2⟩⟩
  · obtain ⟨a, b, q1, q2, q3, q4, q5⟩ := h.w i hi
    exact ⟨a, b, q1, q2, q3, q4, fun j hj => ⟨hK j (q5 j hj).1, (q5 j hj).2⟩⟩
/-- The blocks of the lists that join. -/
def zB (k : Nat) (Z : Nat → Value) (j : Nat) : Prop := ∃ t, t < k ∧ (Z t).ownBlock = some j
theorem add_bk (K R : Nat → Prop) (bb n m k ab ao ac : Nat) (aa : Option Addr) (X Y U V Z : Nat → Value) (ln : Nat → Nat) (hn2 : n + k ≤ 5864062014805) (w : World) (h : BK w K R 0 bb n n m m X Y U V) (hZ : NZ w K k Z ln) (hA : ∀ t, t < k → w.cell? ⟨ab, ao + t, none⟩ = some (Z t)) (haa : 0 < k → aa = some ⟨ab, ao, none⟩ ∧ TyB w ab 28 ∧ ¬ R ab) :
    Calls Try.prog 36 #[.pointer (some ⟨bb, 0, none⟩), .slice aa k ac] w fun e w' => e = .returned (.tuple #[]) ∧ ∃ X' Y', BK w' (fun j => K j ∨ zB k Z j ∨ w.heap.size ≤ j) (fun j => R j ∨ w.heap.size ≤ j) 0 bb (n + k) (n + k) m m X' Y' U V ∧ Chg (fun j => R j ∨ zB k Z j) w w' := by
  obtain ⟨lv, mv, uv, vv, h1, h2, h3, h4, h5, h6, h7, h8⟩ := h.hd
  have hb : BH w (rB bb lv mv uv vv) 0 bb n n m m lv mv uv vv X Y U V := ⟨h1, h2, h3, h4, h5, fun g hg => .inr hg, h7, h8, .inl rfl⟩
  have hrR : ∀ j, rB bb lv mv uv vv j → R j := fun j hj => hj.elim (fun e => e ▸ h.b) (h6 j)
  have hZL : NL w K (rB bb lv mv uv vv) 0 ab k Z ln := by
    refine ⟨hZ.o, fun t ht g hg => ?_, hZ.l⟩
    obtain ⟨xs, ho⟩ := hZ.o t ht
    have hty := own_ty ho hg
    exact ⟨(hZ.a t ht g hg).1, hb.ty hty (by decide) (by decide) (by decide), tyB_ne hty (haa (by omega)).2.1 (by decide), hty.lt, (hZ.a t ht g hg).2⟩
  refine (add_any K _ 0 bb n m k ab ao ac aa lv mv uv vv X Y U V Z ln (by omega) hn2 w hb hZL hA (fun hk => ⟨(haa hk).1, fun hr => (haa hk).2.2 (hrR _ hr), (haa hk).2.1.lt⟩) (Nat.zero_le _) (fun j hj => ?_)).mono ?_
  · rcases hj with rfl | hj | hj | hj | hj
    · exact h1.lt
    · exact own_lt2 h2 hj
    · exact own_lt2 h3 hj
    · exact own_lt2 h4 hj
    · exact own_lt2 h5 hj
  rintro e w' ⟨rfl, lv', mv', Y', hY, ha⟩
  have hc : ∀ j, K j → (TyB w j 5 ∨ TyB w j 96) → ¬ (rB bb lv mv uv vv j ∨ ∃ t, t < k ∧ (Z t).ownBlock = some j) := fun j hk ht e => by
    rcases e with e | ⟨t, htk, hg⟩
    · rcases ht with ht | ht
      · exact hb.ty ht (by decide) (by decide) (by decide) e
      · exact hb.ty ht (by decide) (by decide) (by decide) e
    · exact (hZ.a t htk j hg).1 hk
  refine ⟨rfl, jn X Z n, Y', ⟨⟨lv', mv', uv, vv, ha.b.blk, ha.b.l, ha.b.m, ha.b.u, ha.b.v, fun g hg => (ha.b.r g hg).imp (hrR g) id, ha.b.d1, ha.b.d2⟩, fun i hi => ?_, fun i hi => ?_, .inl h.b, Nat.le_refl _, Nat.le_refl _, by omega, h.n2⟩, ha.c.mono (fun j hj => hj.imp (hrR j) id)⟩
  · by_cases hin : i < n
    · obtain ⟨a, b, q1, q2, q3, q4, q5⟩ := h.e i hin
      have e1 : jn X Z n i = X i := by unfold jn; rw [if_pos hin]
      rw [e1, hY i hin]
      exact ⟨a, b, q1, q2, q3.chg ha.c (fun j hj => hc j (q5 j (.inl hj)).1 (.inl (q5 j (.inl hj)).2)), q4.chg ha.c (fun j hj => hc j (q5 j (.inr hj)).1 (.inl (q5 j (.inr hj)).2)), fun j hj => ⟨.inl (q5 j hj).1, (q5 j hj).2.chg ha.c (hc j (q5 j hj).1 (.inl (q5 j hj).2))⟩⟩
    · obtain ⟨t, rfl⟩ : ∃ t, i = n + t := ⟨i - n, by omega⟩
      have e1 : jn X Z n (n + t) = Z t := by unfold jn; rw [if_neg (by omega), Nat.add_sub_cancel_left]
      rw [e1]
      obtain ⟨g1, g2, g3⟩ := ha.e t (by omega) (by omega)
      have := hZ.l t (by omega)
      exact ⟨ln t, ln t + 64, by omega, by omega, g1, g2, fun j hj => ⟨.inr ((g3 j hj).1.imp (fun x => ⟨t, by omega, x⟩) id), (g3 j hj).2⟩⟩
  · obtain ⟨a, b, q1, q2, q3, q4, q5⟩ := h.w i hi
    exact ⟨a, b, q1, q2, q3.chg ha.c (fun j hj => hc j (q5 j (.inl hj)).1 (.inr (q5 j (.inl hj)).2)), q4.chg ha.c (fun j hj => hc j (q5 j (.inr hj)).1 (.inr (q5 j (.inr hj)).2)), fun j hj => ⟨.inl (q5 j hj).1, (q5 j hj).2.chg ha.c (hc j (q5 j hj).1 (.inr (q5 j hj).2))⟩⟩
/-- The room behind a list that is handed in, with j of its four bytes written. -/
def rmL (j : Nat) : List Nat := List.replicate j 201 ++ List.replicate (4 - j) 0
theorem rm_set {j : Nat} (hj : j < 4) (xs : List Nat) : (xs ++ rmL j).set (xs.length + j) 201 = xs ++ rmL (j + 1) := by
  rw [List.set_append_right _ _ (by omega), Nat.add_sub_cancel_left]
  congr 1
  rcases j with _ | _ | _ | _ | j
  · rfl
  · rfl
  · rfl
  · rfl
  · omega
theorem rm_len (j : Nat) (hj : j ≤ 4) : (rmL j).length = 4 := by unfold rmL; simp; omega
set_option maxRecDepth 100000 in
set_option maxHeartbeats 8000000 in
theorem handed_any (v : Value) (xs : List Nat) (hx : xs.length ≤ 1048576) (w : World) (h : Bytes w v xs) : Calls Try.prog 40 #[v] w fun e w' => e = .returned (.slice (some ⟨w.heap.size, 0, none⟩) xs.length (xs.length + 4)) ∧ G w w' ∧ Blk w' w.heap.size 5 ((xs ++ rmL 4).map bv) := by
  obtain ⟨ba, cap, rfl, hcap, hb⟩ := h
  have HMK := hide (run_mk (xs.length + 4) (by omega) w)
  have HB := hide hb
  go_enter Try.func40, Try.ntmps40
  go_wp2_with fail
  rw [show ((xs.length : Int) + 4) = ((xs.length + 4 : Nat) : Int) by omega, HMK.out]
  have HG1 := hide ((G.refl w).alloc (.cells ((List.replicate (xs.length + 4) 0).map bv).toArray 5))
  have HB1 := hide (Blk.new w ((List.replicate (xs.length + 4) 0).map bv) 5)
  generalize w.alloc (.cells ((List.replicate (xs.length + 4) 0).map bv).toArray 5) = w1 at HG1 HB1 ⊢
  clear HMK hb
  have HCP : Hid (∃ w2 n2, (Builtin.copy_ #[28, 28] 3 #[.slice (some ⟨w.heap.size, 0, none⟩) (xs.length + 4) (xs.length + 4), .slice ba xs.length cap]).run Try.prog w1 = .ok n2 w2 ∧ G w w2 ∧ Blk w2 w.heap.size 5 ((xs ++ rmL 0).map bv)) := by
    unfold Hid
    by_cases h0 : xs = []
    · subst h0
      exact ⟨_, _, run_copy_none (P := Try.prog) w1 28 28 3 5 (some ⟨w.heap.size, 0, none⟩) ba 4 4 0 cap Try.underlying28 size_u8 rfl, HG1.out, HB1.out⟩
    · obtain ⟨b, oo, rfl, hl⟩ := HB.out.resolve_left h0
      have hLI := hl.G HG1.out
      refine ⟨_, _, run_copy_cells (P := Try.prog) w1 28 28 _ 5 w.heap.size 0 (xs.length + 4) (xs.length + 4) ⟨b, oo, none⟩ xs.length cap (xs.map bv) Try.underlying28 size_u8 (by rw [List.length_map]; exact (Nat.min_eq_left (by omega)).symm) hLI.cells (fun j hj => (HB1.out.there 0 (xs.map bv).length (by simp) j hj).1) (fun j hj => HB1.out.frozen _) (one_map _), G.setCells _ HG1.out (Nat.le_refl _), ?_⟩
      have h2 := HB1.out.sets (xs.map bv) 0 (by simp)
      have e : ((List.replicate (xs.length + 4) 0).map bv).take 0 ++ xs.map bv ++ ((List.replicate (xs.length + 4) 0).map bv).drop (0 + (xs.map bv).length) = (xs ++ rmL 0).map bv := by
        rw [List.take_zero, List.nil_append, List.map_append, Nat.zero_add, List.length_map, ← List.map_drop, List.drop_replicate, Nat.add_sub_cancel_left]
        rfl
      rw [e] at h2
      exact h2
  obtain ⟨w2, n2, hrun, hg2, hb2⟩ := HCP.out
  have HRUN := hide hrun
  have HG2 := hide hg2
  have HB2 := hide hb2
  clear HCP HB1 HG1 HB hrun hg2 hb2
  go_wp2_with fail
  rw [HRUN.out]
  clear HRUN
  go_wp2_with fail
  go_loopw [4] (fun i W => ∃ j : Nat, j ≤ 4 ∧ i = .int .i64 ((xs.length + j : Nat) : Int) ∧ G w W ∧ Blk W w.heap.size 5 ((xs ++ rmL j).map bv)) (fun i _ => xs.length + 4 - (RowKit.intOf i).toNat)
  case atStart => exact ⟨0, by omega, by simp, HG2.out, HB2.out⟩
  case round =>
    obtain ⟨j, hj, rfl, hg, hbk⟩ := hrel
    have HG := hide hg
    have HBK := hide hbk
    by_cases hlt : j < 4
    · have hjI : ((xs.length + j : Nat) : Int) < ((xs.length + 4 : Nat) : Int) := by omega
      have hc := hbk.there (xs.length + j) 1 (by rw [List.length_map, List.length_append, rm_len j hj]; omega) 0 (by omega)
      obtain ⟨hc1, hc2⟩ := hc
      rw [Nat.add_zero] at hc1 hc2
      obtain ⟨y, hy⟩ := Option.isSome_iff_exists.1 hc1
      clear hg hbk hc1
      go_wp2
      have HN := hide (HBK.out.setN (xs.length + j) 201)
      rw [rm_set hlt] at HN
      go_roundw
      case rel => exact ⟨j + 1, by omega, by go_num, HG.out.setCell (Nat.le_refl _) _, HN.out⟩
      case measure => simp [RowKit.intOf]; omega
    · obtain rfl : j = 4 := by omega
      go_wp2
      go_ret
      exact ⟨rfl, HG.out, HBK.out⟩
set_option maxRecDepth 100000 in
set_option maxHeartbeats 8000000 in
theorem untouched_any (v : Value) (g : Nat) (xs : List Nat) (hx : xs.length ≤ 1048576) (w : World) (h : Bytes w v xs) (hb : Blk w g 5 ((xs ++ rmL 4).map bv)) : Calls Try.prog 42 #[.slice (some ⟨g, 0, none⟩) xs.length (xs.length + 4), v] w fun e w' => e = .returned (.bool true) ∧ G w w' := by
  have HBY := hide h
  have HB := hide hb
  obtain ⟨ba, cap, rfl, hcap, _⟩ := h
  have HL : Hid (Bytes w (.slice (some ⟨g, 0, none⟩) xs.length (xs.length + 4)) xs) := ⟨_, _, rfl, by omega, .inr ⟨g, 0, rfl, fun j y hj => by
    rw [Addr.add_mid, Nat.zero_add, hb.cell, List.getElem?_map, List.getElem?_append_left (List.getElem?_eq_some_iff.1 hj).1, hj]
    rfl⟩⟩
  clear hb
  go_enter Try.func42, Try.ntmps42
  go_wp2_with fail
  go_loopw [6] (fun i W => ∃ j : Nat, j ≤ 4 ∧ i = .int .i64 ((xs.length + j : Nat) : Int) ∧ W = w) (fun i _ => xs.length + 4 - (RowKit.intOf i).toNat)
  case atStart => exact ⟨0, by omega, by simp, rfl⟩
  case round =>
    obtain ⟨j, hj, rfl, rfl⟩ := hrel
    by_cases hlt : j < 4
    · have hjI : ((xs.length + j : Nat) : Int) < ((xs.length + 4 : Nat) : Int) := by omega
      have hc : wr.cell? ⟨g, xs.length + j, none⟩ = some (.int .u8 201) := by
        rw [HB.out.cell, List.getElem?_map, List.getElem?_append_right (by omega), Nat.add_sub_cancel_left]
        rcases j with _ | _ | _ | _ | j
        · rfl
        · rfl
        · rfl
        · rfl
        · omega
      go_wp2
      go_roundw
      case rel => exact ⟨j + 1, by omega, by go_num, by simp⟩
      case measure => simp [RowKit.intOf]; omega
    · obtain rfl : j = 4 := by omega
      go_wp2_with fail
      refine (same_true _ _ xs (by omega) _ HL.out HBY.out).mono ?_
      rintro e' w2 ⟨rfl, hg⟩
      go_wp2
      go_ret
      exact ⟨rfl, hg⟩
end Go.Proofs.Ytbjbphhcmmaaoaa
