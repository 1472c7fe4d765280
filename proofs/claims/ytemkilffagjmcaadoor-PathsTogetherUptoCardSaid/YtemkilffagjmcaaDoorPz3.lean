/- Paths: a piece's arcs that stay inside. -/
import Derived.Test.YtemkilffagjmcaaDoorPj6
import Derived.Test.YtemkilffagjmcaaDoorPj2
namespace Go.Proofs.YtemkilffagjmcaaDoor
open Go.RowKit

theorem info_N : ∃ i, Tryd.prog.info? 3 = some i ∧ i.zero = some (I 0) ∧ i.size = 1 ∧ i.bytes = 8 := info_parts (by kernel_rfl)
theorem app_N (w : World) (lo : Nat) (v : Value) (n : Nat) (xs : List Value) (h : Rw lo 3 1 w v n xs) (a : Addr) (m c : Nat) (news : List Value) (hl : news.length = m * 1) (hn : ∀ (j : Nat) (u : Value), news[j]? = some u → w.cell? (a.add j) = some u) (h1 : ∀ u ∈ news, u.oneCell' = true) (hb : n + m ≤ 17179869184) (hz : lo ≤ w.heap.size) :
    ∃ v' w', (Builtin.append_ #[62, 62] 62 #[v, .slice (some a) m c]).run Tryd.prog w = .ok v' w' ∧ Rw lo 3 1 w' v' (n + m) (xs ++ news) ∧ Chg (fun k => v.ownBlock = some k) w w' ∧ (v'.ownBlock = v.ownBlock ∨ v'.ownBlock = some w.heap.size) := by
  obtain ⟨i0, hi0, hz0, hz1, hz2⟩ := info_N
  have hmx : (17179869184 : Nat) ≤ maxLen := of_decide_eq_true (by kernel_rfl)
  obtain ⟨v', w', hr, q2, q3, _, q5⟩ := run_append_own_at (P := Tryd.prog) w lo 62 62 3 i0 _ 1 8 Tryd.underlying62 hi0 hz0 hz1 hz2 rfl (by decide) v n xs h a m c news hl hn h1 (by omega) (by omega) hz
  exact ⟨v', w', hr, q2, ⟨q3.os, q3.tape, q3.output, q3.size, fun k hk hn => q3.block k hk (fun e => hn e.symm)⟩, q5⟩
/-- Where the arcs lead to that stay inside. -/
def insL (g : Int → Option Nat) (l : List Ar) : List Nat := l.filterMap (fun a => g a.2.1)
theorem insL_take {g : Int → Option Nat} {l : List Ar} {k : Nat} {y : Ar} (h : l[k]? = some y) : insL g (l.take (k + 1)) = insL g (l.take k) ++ (g y.2.1).toList := by
  unfold insL
  rw [List.take_add_one, h, List.filterMap_append]
  congr 1
theorem insL_len (g : Int → Option Nat) (l : List Ar) : (insL g l).length ≤ l.length := List.length_filterMap_le _ _
theorem ms5 {k n : Nat} (h : k < n) : n - ((k : Int) + 1).toNat < n - (k : Int).toNat := by omega
theorem wone3 (i : Nat) (h : i ≤ 1048576) : wrap64 ((i : Int) + 1) = (i : Int) + 1 := by unfold wrap64; omega
set_option maxRecDepth 100000 in
set_option maxHeartbeats 2000000 in
theorem inside_any (W : World) (pb mb : Nat) (iv av : Value) (g : Int → Option Nat) (hb : Blk W pb 61 [iv, .map (some mb), av]) (hm : Mp (fun n : Int => I n) 2 W mb (fun n => (g n).map fun (i : Nat) => I (i : Int))) (lv : Value) (l : List Ar) (hl : ArcO W lv l) (hlen : l.length ≤ 1048576) :
    Calls Tryd.prog 30 #[ptr pb, lv] W fun e W' => ∃ tv, e = .returned tv ∧ Rw W.heap.size 3 1 W' tv (insL g l).length ((insL g l).map fun (i : Nat) => I (i : Int)) ∧ G W W' := by
  obtain ⟨la, lc, rfl, hla⟩ := hl.at_
  have HLA := hide hla
  have HOK := hide hl.ok
  have HB := hide hb
  have HM := hide hm
  have HLN := hide hlen
  clear hb hm hl hla hlen
  go_enter Tryd.func30, Tryd.ntmps30
  go_wp2_with fail
  go_loopw [5, 12] (fun tv kv wr => ∃ k : Nat, kv = I k ∧ k ≤ l.length ∧ Rw W.heap.size 3 1 wr tv (insL g (l.take k)).length ((insL g (l.take k)).map fun (i : Nat) => I (i : Int)) ∧ G W wr) (fun _ kv _ => l.length - (RowKit.intOf kv).toNat)
  case atStart => exact ⟨0, rfl, Nat.zero_le _, Rw.nil _ _ _ _, G.refl _⟩
  case round =>
    obtain ⟨k, rfl, hk, hrow, hg⟩ := hrel
    by_cases hkl : k < l.length
    · have hkI : (k : Int) < l.length := Int.ofNat_lt.2 hkl
      obtain ⟨⟨ye, yt, yw⟩, hy⟩ : ∃ y, l[k]? = some y := ⟨_, List.getElem?_eq_getElem hkl⟩
      obtain ⟨ga, rest, rfl, hgb⟩ : ∃ ga rest, la = some ⟨ga, 0, none⟩ ∧ Blk W ga 40 (flA l ++ rest) := by
        rcases HLA.out with e | ⟨ga, rest, e, h⟩
        · subst e; simp at hkl
        · exact ⟨ga, rest, e, h⟩
      obtain ⟨f1, f2, f3⟩ := flA_get l k _ hy
      have hfl := flA_len l
      have cc := (hgb.G hg).cell
      have y1 : wr.cell? ⟨ga, k * 3, none⟩ = some (I ye) := by rw [cc, List.getElem?_append_left (by omega)]; exact f1
      have y2 : wr.cell? ⟨ga, k * 3 + 1, none⟩ = some (I yt) := by rw [cc, List.getElem?_append_left (by omega)]; exact f2
      have y3 : wr.cell? ⟨ga, k * 3 + 2, none⟩ = some (I yw) := by rw [cc, List.getElem?_append_left (by omega)]; exact f3
      obtain ⟨w1, hw1⟩ : ∃ w1, w1 = wr.alloc (.cells #[I ye, I yt, I yw] 40) := ⟨_, rfl⟩
      obtain ⟨ab, hab⟩ : ∃ ab, ab = wr.heap.size := ⟨_, rfl⟩
      have g1 : G wr w1 := by rw [hw1]; exact (G.refl _).alloc _
      have kb : Blk w1 ab 40 [I ye, I yt, I yw] := by rw [hw1, hab]; exact Blk.new wr [I ye, I yt, I yw] 40
      have hr : R64 yt := (HOK.out _ (List.mem_of_getElem? hy)).2.1
      have hlk := (HM.out.G (hg.trans g1)).lookOkN kyI Tryd.underlying58 Tryd.zeroValue3 (kyI_ok.2 hr)
      have cb := kb.cell
      have cp := (HB.out.G (hg.trans g1)).cell
      have hwk : wrap64 ((k : Int) + 1) = (k : Int) + 1 := wone3 k (Nat.le_trans (Nat.le_of_lt hkl) HLN.out)
      have HTK := hide (insL_take (g := g) hy)
      have HLL : Hid ((insL g (l.take k)).length ≤ 1048576) := Nat.le_trans (insL_len _ _) (Nat.le_trans (by rw [List.length_take]; exact Nat.min_le_right _ _) HLN.out)
      obtain ⟨ta', tc', rfl⟩ := Rw.form hrow
      have HROW := hide (Rw.G hrow g1)
      have HG := hide (hg.trans g1)
      have HKL := hide hkl
      clear hk hrow hg hkl hy hgb f1 f2 f3 hfl cc hr kb g1
      go_wp2_with fail
      rw [← hw1, ← hab]
      clear hw1 hab y1 y2 y3
      cases hgt : g yt with
      | none =>
        simp only [hgt] at hlk HTK
        have HROW2 : Hid (∀ V, G w1 V → Rw W.heap.size 3 1 V (.slice ta' (insL g (l.take k)).length tc') (insL g (l.take (k + 1))).length ((insL g (l.take (k + 1))).map fun (i : Nat) => I (i : Int))) := fun V gV => by
          rw [HTK.out]
          simpa using Rw.G HROW.out gV
        clear hgt
        go_quiet (fail)
        go_wp2_with fail
        go_roundw
        case rel => (try rw [hwk]); exact ⟨k + 1, by simp, HKL.out, HROW2.out _ (g_drewN _ _), HG.out.trans (g_drewN _ _)⟩
        case measure => (try rw [hwk]); simp only [RowKit.intOf]; exact ms5 HKL.out
      | some j =>
        simp only [hgt] at hlk HTK
        clear hgt
        go_quiet (fail)
        generalize hw2 : World.drewN w1 _ = w2
        have HG2 : Hid (G w1 w2) := by rw [← hw2]; exact g_drewN _ _
        clear hw2
        have gA : G w2 (w2.alloc (.cells #[I (j : Int)] 3)) := (G.refl w2).alloc _
        obtain ⟨v', w', q1, q2, q3, q4⟩ := app_N (w2.alloc (.cells #[I (j : Int)] 3)) W.heap.size (.slice ta' (insL g (l.take k)).length tc') (insL g (l.take k)).length ((insL g (l.take k)).map fun (i : Nat) => I (i : Int)) (Rw.G HROW.out (HG2.out.trans gA)) ⟨w2.heap.size, 0, none⟩ 1 1 [I (j : Int)] rfl (fun i u hj => by rw [Addr.add_mid, Nat.zero_add, (Blk.new w2 [I (j : Int)] 3).cell]; exact hj) (fun u hu => by simp at hu; subst hu; rfl) (by have := HLL.out; omega) (((HG.out.trans HG2.out).trans gA).size)
        have HRUN := hide q1
        have HROW2 : Hid (Rw W.heap.size 3 1 w' v' (insL g (l.take (k + 1))).length ((insL g (l.take (k + 1))).map fun (i : Nat) => I (i : Int))) := by
          show Rw _ _ _ _ _ _ _
          rw [HTK.out]
          simpa using q2
        have HG3 : Hid (G W w') := (((HG.out.trans HG2.out).trans gA).chg (F := fun _ => False)).more q3 (fun i hi e => by have := (Rw.own HROW.out e).1; omega) |>.G (fun _ q => q.elim)
        clear q1 q2 q3 q4 gA hlk cb cp
        go_wp2_with (first | (at_builtin; refine wpList_append_run rfl _ _ 62 rfl (.slice ta' (insL g (l.take k)).length tc') (.slice (some ⟨w2.heap.size, 0, none⟩) 1 1) rfl rfl HRUN.out ?_) | fail)
        go_roundw
        case rel => (try rw [hwk]); exact ⟨k + 1, by simp, HKL.out, HROW2.out, HG3.out⟩
        case measure => (try rw [hwk]); simp only [RowKit.intOf]; exact ms5 HKL.out
    · have hkI : ¬ ((k : Int) < l.length) := fun h => hkl (Int.ofNat_lt.1 h)
      obtain rfl : k = l.length := Nat.le_antisymm hk (Nat.le_of_not_lt hkl)
      rw [List.take_length] at hrow
      have HROW := hide hrow
      have HG := hide hg
      obtain ⟨ta', tc', rfl⟩ := Rw.form hrow
      clear hrow hg hk hkl
      go_wp2_with fail
      go_ret
      exact ⟨_, rfl, HROW.out, HG.out⟩
end Go.Proofs.YtemkilffagjmcaaDoor
