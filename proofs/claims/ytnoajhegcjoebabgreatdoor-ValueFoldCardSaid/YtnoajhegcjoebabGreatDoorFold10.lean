/- folds at nil. -/
import Derived.Test.YtnoajhegcjoebabGreatDoorFold9
import Derived.Laws.AppendOwnNone
namespace Go.Proofs.YtnoajhegcjoebabGreatDoor
open Go.RowKit Go.Lib Go.Shelf
attribute [local go_sem] eqV neqV

theorem own_all0 {w : World} {base : Nat} {e : TypeId} {y : Value} (h : w.ownsRow base e 4 y (mks 3).length (flat (mks 3))) :
    ∃ g cap, y = .slice (some ⟨g, 0, none⟩) 3 cap ∧ base ≤ g ∧ 3 ≤ cap ∧ VRow w (.slice (some ⟨g, 0, none⟩) 3 cap) (mks 3) := by
  simpa using own_all (L := []) (by simpa using h)
set_option maxRecDepth 100000 in
set_option maxHeartbeats 4000000 in
theorem folds_none (kind op k a b : Int) (s : ByteArray) (k' a' b' : Int) (s' : ByteArray) (st tt : ByteArray) (bb : Value) (n x y o1 o2 : Int) (w : World) 
    (q : Qd) (c : Int)
    (hA : ∀ W x, G w W → VRow W x [] → Calls Tryz.prog 51 #[.int .i64 op, x] W fun e w' => e = .returned (.tuple #[q.W, .int .i64 c]) ∧ G W w') (hB : ∀ W, G w W → Calls Tryz.prog 52 #[.int .i64 op, .slice none 0 0] W fun e w' => e = .returned (.tuple #[q.W, .int .i64 c]) ∧ G W w') :
    Calls Tryz.prog 18 #[.agg #[I kind, I op, I k, I a, I b, .string s, I k', I a', I b', .string s', .slice none 0 0, .string st, .string tt, bb, I n, I x, I y, I o1, I o2]] w fun e w' => e = .returned (.bool true) ∧ G w w' := by
  obtain ⟨i0, hi, hz0, hz1, hz2⟩ := info_parts info_val
  have HA : Hid _ := hA
  have HB : Hid _ := hB
  
  clear hA hB
  obtain ⟨qk, qa, qb, qs⟩ := q
  go_enter Tryz.func18, Tryz.ntmps18
  go_wp2_with (at_builtin; refine wpList_append_own_none rfl _ _ 27 rfl 0 26 i0 4 Tryz.underlying27 hi _ 0 [] rfl (World.ownsRow_nil _ _ _ _) rfl ?_)
  have HG2 : Hid (G (w.alloc (.cells #[I kind, I op, I k, I a, I b, .string s, I k', I a', I b', .string s', .slice none 0 0, .string st, .string tt, bb, I n, I x, I y, I o1, I o2] 30)) (w.alloc (.cells #[I kind, I op, I k, I a, I b, .string s, I k', I a', I b', .string s', .slice none 0 0, .string st, .string tt, bb, I n, I x, I y, I o1, I o2] 30))) := G.refl _
  have HO2 : Hid ((w.alloc (.cells #[I kind, I op, I k, I a, I b, .string s, I k', I a', I b', .string s', .slice none 0 0, .string st, .string tt, bb, I n, I x, I y, I o1, I o2] 30)).ownsRow (w.alloc (.cells #[I kind, I op, I k, I a, I b, .string s, I k', I a', I b', .string s', .slice none 0 0, .string st, .string tt, bb, I n, I x, I y, I o1, I o2] 30)).heap.size 26 4 (.slice none 0 0) (mks 0).length (flat (mks 0))) := by exact World.ownsRow_nil _ _ _ _
  go_wp2
  go_loopw [3, 4] (fun yy i W => ∃ m : Nat, m ≤ 3 ∧ i = .int .i64 m ∧ Hid (G (w.alloc (.cells #[I kind, I op, I k, I a, I b, .string s, I k', I a', I b', .string s', .slice none 0 0, .string st, .string tt, bb, I n, I x, I y, I o1, I o2] 30)) W) ∧ Hid (W.ownsRow (w.alloc (.cells #[I kind, I op, I k, I a, I b, .string s, I k', I a', I b', .string s', .slice none 0 0, .string st, .string tt, bb, I n, I x, I y, I o1, I o2] 30)).heap.size 26 4 yy (mks m).length (flat (mks m)))) (fun _ i _ => 3 - (RowKit.intOf i).toNat)
  case atStart => exact ⟨0, by omega, rfl, HG2.out, HO2.out⟩
  case round =>
    obtain ⟨m, hm, rfl, HG, HO⟩ := hrel
    clear HG2 HO2
    by_cases hlt : m < 3
    · have hlt3 : (m : Int) < 3 := by omega
      have hle : (mks m).length = m := by simp [mks]
      go_wp2_with (at_builtin; refine wpList_append_own _ rfl _ _ 27 rfl (w.alloc (.cells #[I kind, I op, I k, I a, I b, .string s, I k', I a', I b', .string s', .slice none 0 0, .string st, .string tt, bb, I n, I x, I y, I o1, I o2] 30)).heap.size 26 i0 V0 4 40 Tryz.underlying27 hi hz0 hz1 hz2 rfl (by decide) _ _ _ rfl (World.ownsRow.alloc HO.out _) ⟨wr.heap.size, 0, none⟩ 1 1 [I 77, I m, I 0, .string E0] rfl rfl ?c1 ?c2 ?c3 ?c4 ?c5 ?_)
      case c1 =>
        intro j u hj
        match j, hj with
        | 0, hj => simp at hj; subst hj; simp [Addr.add]
        | 1, hj => simp at hj; subst hj; simp [Addr.add]
        | 2, hj => simp at hj; subst hj; simp [Addr.add]
        | 3, hj => simp at hj; subst hj; simp [Addr.add]
      case c2 =>
        intro u hu
        simp at hu
        rcases hu with rfl | rfl | rfl | rfl <;> rfl
      case c3 => unfold maxLen; omega
      case c4 => omega
      case c5 => have := HG.out.size; simp at this ⊢; omega
      intro x' w3 hown3 hgrow _
      have HG3 : Hid (G (w.alloc (.cells #[I kind, I op, I k, I a, I b, .string s, I k', I a', I b', .string s', .slice none 0 0, .string st, .string tt, bb, I n, I x, I y, I o1, I o2] 30)) w3) := Below.grown (HG.out.alloc _) hgrow (by have := HG.out.size; simp at this ⊢; omega) (fun g hg => (World.ownsRow.lt HO.out g hg).1)
      have HO3 : Hid (w3.ownsRow (w.alloc (.cells #[I kind, I op, I k, I a, I b, .string s, I k', I a', I b', .string s', .slice none 0 0, .string st, .string tt, bb, I n, I x, I y, I o1, I o2] 30)).heap.size 26 4 x' (mks (m + 1)).length (flat (mks (m + 1)))) := by
        unfold Hid
        have es : (w.alloc (.cells #[I kind, I op, I k, I a, I b, .string s, I k', I a', I b', .string s', .slice none 0 0, .string st, .string tt, bb, I n, I x, I y, I o1, I o2] 30)).heap.size = w.heap.size + 1 := by simp
        rw [mks_snoc, List.length_append, flat_snoc, es, hle]
        exact hown3
      clear hown3 hgrow
      go_wp2
      go_roundw
      case rel => exact ⟨m + 1, by omega, by go_num, HG3.out, HO3.out⟩
      case measure => simp [RowKit.intOf]; omega
    · have em : m = 3 := by omega
      subst em
      clear hlt hm
      obtain ⟨g, cap3, hy, hgb, hcap, HVA⟩ := own_all0 HO.out
      subst hy
      have HGw : Hid (G w wr) := ((G.refl w).alloc _).trans HG.out
      have hE : ∀ (o : Nat), wr.cell? { block := w.heap.size, off := o } = [I kind, I op, I k, I a, I b, .string s, I k', I a', I b', .string s', .slice none 0 0, .string st, .string tt, bb, I n, I x, I y, I o1, I o2][o]? := G.cells HG.out (fun o => by simp) (by simp)
      have hzE : w.heap.size < wr.heap.size := by have := HG.out.size; simp at this; omega
      have hl1 : (0 : Int) ≤ (cap3 : Int) := by omega
      have hl2 : 0 ≤ cap3 := Nat.zero_le _
      have HVP : Hid (VRow wr (.slice (some ⟨g, 0, none⟩) 0 cap3) []) := .inr ⟨g, 0, cap3, rfl, Nat.zero_le _, fun i q hi => by simp at hi⟩
      have HVA' : Hid _ := HVA
      clear HG HO HVA
      generalize wr = w3 at HGw hE hzE HVP HVA' ⊢
      go_wp2_with fail
      refine (HA.out _ _ HGw.out HVP.out).mono ?_
      rintro e w5 ⟨rfl, hb5⟩
      have HG5 : Hid (G w3 w5) := hb5
      have hE5 : ∀ (o : Nat), w5.cell? { block := w.heap.size, off := o } = [I kind, I op, I k, I a, I b, .string s, I k', I a', I b', .string s', .slice none 0 0, .string st, .string tt, bb, I n, I x, I y, I o1, I o2][o]? := G.cells hb5 hE hzE
      have hz5 : w.heap.size < w5.heap.size := by have := hb5.size; omega
      clear hb5 hE
      go_wp2_with fail
      refine (HB.out _ ((HGw.out.trans HG5.out).alloc _)).mono ?_
      rintro e w6 ⟨rfl, hb6⟩
      have HG6 : Hid (G w3 w6) := (HG5.out.alloc _).trans hb6
      have hE6 : ∀ (o : Nat), w6.cell? { block := w.heap.size, off := o } = [I kind, I op, I k, I a, I b, .string s, I k', I a', I b', .string s', .slice none 0 0, .string st, .string tt, bb, I n, I x, I y, I o1, I o2][o]? := G.cells hb6 (G.cells ((G.refl w5).alloc _) hE5 hz5) (by simp; omega)
      have hQ6 : ∀ (o : Nat), w6.cell? { block := w5.heap.size, off := o } = [I qk, I qa, I qb, Value.string qs][o]? := G.cells hb6 (fun o => by simp) (by simp)
      have hz6 : w5.heap.size < w6.heap.size := by have := hb6.size; simp at this; omega
      clear hb6 hE5
      have HW8 : Hid (W8P w w3 w5.heap.size w6.heap.size (fun o => [I kind, I op, I k, I a, I b, .string s, I k', I a', I b', .string s', .slice none 0 0, .string st, .string tt, bb, I n, I x, I y, I o1, I o2][o]?) qk qa qb qs (w6.alloc (.cells #[I qk, I qa, I qb, .string qs] 26))) :=
        ⟨HG6.out.alloc _, G.cells ((G.refl w6).alloc _) hE6 (by omega), G.cells ((G.refl w6).alloc _) hQ6 hz6, fun o => by simp, by simp; omega, by simp; omega, by simp⟩
      clear hE6 hQ6 HG6
      go_wp2
      generalize (w6.alloc (.cells #[I qk, I qa, I qb, .string qs] 26)) = W8 at HW8 ⊢
      generalize w5.heap.size = B6 at HW8 ⊢
      generalize w6.heap.size = B8 at HW8 ⊢
      clear hz6 hz5 HG5
      go_loopw [10] (fun i W => ∃ m : Nat, m ≤ 0 ∧ i = .int .i64 m ∧ Hid (W8P w w3 B6 B8 (fun o => [I kind, I op, I k, I a, I b, .string s, I k', I a', I b', .string s', .slice none 0 0, .string st, .string tt, bb, I n, I x, I y, I o1, I o2][o]?) qk qa qb qs W)) (fun i _ => 0 - (RowKit.intOf i).toNat)
      case atStart => exact ⟨0, by omega, rfl, HW8.out⟩
      case round =>
        obtain ⟨m, hm, rfl, HW⟩ := hrel
        clear HW8
        by_cases hlt : m < 0
        · exact absurd hlt (Nat.not_lt_zero _)
        · clear hm
          go_wp2
          go_loopw [11] (fun i W => ∃ m : Nat, m ≤ 3 ∧ i = .int .i64 m ∧ Hid (W8P w w3 B6 B8 (fun o => [I kind, I op, I k, I a, I b, .string s, I k', I a', I b', .string s', .slice none 0 0, .string st, .string tt, bb, I n, I x, I y, I o1, I o2][o]?) qk qa qb qs W)) (fun i _ => 3 - (RowKit.intOf i).toNat)
          case atStart => exact ⟨0, by omega, rfl, HW.out⟩
          case round =>
            obtain ⟨m2, hm2, rfl, HW2⟩ := hrel
            clear HW
            by_cases hlt2 : m2 < 3
            · have hq : (mks 3)[m2]? = some (77, (m2 : Int), 0, E0) := by
                simp [mks, hlt2]
              obtain ⟨hG, hE, _, _, _, _, _⟩ := HW2.out
              obtain ⟨p0, p1, p2, p3⟩ := vrow_at (VRow.G HVA'.out hG) hq
              simp only [Nat.zero_add] at p0 p1 p2 p3
              have i1 : (m2 : Int) < 3 := by omega
              have i2 : m2 < 3 := hlt2
              clear hG hq
              go_wp2
              go_roundw
              case rel => exact ⟨m2 + 1, by omega, by go_num, W8P.keep (by repeat (first | exact G.refl _ | refine G.drew ?_)) HW2.out⟩
              case measure => simp [RowKit.intOf]; omega
            · obtain ⟨hG, hE, h6, h8, _, _, _⟩ := HW2.out
              have gE : G w wr := HGw.out.trans hG
              clear hG hE
              go_wp2
              go_ret
              exact ⟨rfl, gE⟩
end Go.Proofs.YtnoajhegcjoebabGreatDoor
