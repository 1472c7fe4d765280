/- trellisref1.bytes, joined. -/
import Derived.Test.YtficmpaeochcgaaGreatDoorEnc4
namespace Go.Proofs.YtficmpaeochcgaaGreatDoor
open Go.RowKit Go.Shelf Go.PlainAid Go.Lib

set_option maxRecDepth 100000 in
set_option maxHeartbeats 400000 in
theorem bel_pos (m : Nat) (h : 0 < m) (hm : m < 9223372036854775808) (w : World) : Calls Tryz.prog 77 #[.int .i64 (m : Int)] w fun e w' => e = .returned (.int .i64 (-(m : Int))) ∧ w' = w := by
  have h1 : (0 : Int) < m := by omega
  go_enter Tryz.func77, Tryz.ntmps77
  go_wp2
  go_ret
  exact ⟨rfl, rfl⟩
set_option maxRecDepth 100000 in
set_option maxHeartbeats 400000 in
theorem bel_neg (n : Int) (h : ¬ 0 < n) (w : World) : Calls Tryz.prog 77 #[.int .i64 n] w fun e w' => e = .returned (.int .i64 n) ∧ w' = w := by
  go_enter Tryz.func77, Tryz.ntmps77
  go_wp2
  go_ret
  exact ⟨rfl, rfl⟩
theorem bel_any (n : Int) (h2 : n ≤ 9223372036854775807) (w : World) : Calls Tryz.prog 77 #[.int .i64 n] w fun e w' => e = .returned (.int .i64 (-(n.natAbs : Int))) ∧ w' = w := by
  by_cases h : 0 < n
  · have := bel_pos n.natAbs (by omega) (by omega) w
    rw [show ((n.natAbs : Nat) : Int) = n by omega] at this ⊢
    exact this
  · have := bel_neg n h w
    rw [show -((n.natAbs : Nat) : Int) = n by omega]
    exact this
theorem cell_ltE {w : World} {b o : Nat} {u : Value} (h : w.cell? ⟨b, o, none⟩ = some u) : b < w.heap.size := Nat.lt_of_not_le fun hle => by
  have : w.heap[b]? = none := Array.getElem?_eq_none hle
  simp [World.cell?, this] at h
/-- A digit as it stands in the bytes. -/
def flipB (n : Int) (x : Nat) : Nat := if n < 0 then 255 - x else x
theorem lowB_eq (n : Int) : lowB n = (digs n.natAbs).map (flipB n) := rfl
set_option maxRecDepth 100000 in
set_option maxHeartbeats 2000000 in
theorem rby_any (n : Int) (h1 : -9223372036854775808 ≤ n) (h2 : n ≤ 9223372036854775807) (w : World) : Calls Tryz.prog 31 #[.int .i64 n] w fun e w' => ∃ x', e = .returned x' ∧ Bw w w' x' (encW n) := by
  obtain ⟨i0, hi, hz0, hz1, hz2⟩ := info_parts info_u8
  have H1 : Hid _ := bel_any n h2
  have hlb : (lowB n).length ≤ 8 := by unfold lowB; have := digs_len_le 8 n.natAbs (by omega); simpa using this
  go_enter Tryz.func31, Tryz.ntmps31
  go_wp2_with fail
  refine (H1.out _).mono ?_
  rintro e w1 ⟨rfl, hw⟩
  rw [hw]
  clear hw
  go_wp2
  go_loopw [3, 4, 5] (fun m x _ W => ∃ (q : Nat) (done : List Nat), m = .int .i64 (-(q : Int)) ∧ q ≤ 9223372036854775808 ∧ done ++ (digs q).map (flipB n) = lowB n ∧ Bw w W x done) (fun m _ _ _ => (RowKit.intOf m).natAbs)
  case atStart => exact ⟨n.natAbs, [], rfl, by omega, rfl, Bw.nil w w (G.refl w)⟩
  case round =>
    obtain ⟨q, done, rfl, hq, hd, hB⟩ := hrel
    have hsz := hB.g.size
    have HB : Hid _ := hB
    clear hB
    by_cases h0 : q = 0
    · have hq0 : -(q : Int) = 0 := by omega
      rw [h0, digs_zero, List.map_nil, List.append_nil] at hd
      rw [hq0]
      clear hq0 h0 hq
      subst hd
      obtain ⟨L, hLn⟩ : ∃ L, (lowB n).length = L := ⟨_, rfl⟩
      have hx : ∃ (p : Option Addr) (cap : Nat), u4 = .slice p L cap ∧ L ≤ cap ∧ ∀ i d, (lowB n)[i]? = some d → ∃ g, p = some ⟨g, 0, none⟩ ∧ wr.cell? ⟨g, i, none⟩ = some (bv d) := by
        rcases HB.out.at with ⟨rfl, he⟩ | ⟨g, cap, rfl, _, _, hcap, hc⟩
        · rw [he] at hLn
          exact ⟨none, 0, by rw [← hLn]; rfl, by rw [← hLn]; simp, fun i d hi => by rw [he] at hi; simp at hi⟩
        · exact ⟨_, cap, by rw [hLn], by omega, fun i d hi => ⟨g, rfl, hc i d hi⟩⟩
      have HG : Hid (G w wr) := HB.out.g
      clear HB
      obtain ⟨p, cap, rfl, hcap, hc⟩ := hx
      have hC : Hid _ := hc
      clear hc
      have hL8 : L ≤ 8 := by omega
      generalize hw9 : wr = w9 at *
      clear hw9
      by_cases hn : n < 0
      · skip
        have hE : encW n = (64 - L) :: (lowB n).reverse := by
          unfold encW
          rw [if_pos hn, hLn]
        have eb : Value.int .u8 (64 - (L : Int)) = bv (64 - L) := by show Value.int .u8 _ = Value.int .u8 _; congr 1; omega
        have EB : Hid _ := eb
        have HE : Hid _ := hE
        clear eb hE
        go_wp2
        go_loopw [6, 7] (fun y i W => ∃ k : Nat, k ≤ L ∧ i = .int .i64 ((L : Int) - 1 - k) ∧ Bw w9 W y ((64 - L) :: (lowB n).reverse.take k)) (fun _ i _ => (RowKit.intOf i + 1).toNat)
        case atStart =>
          refine ⟨0, by omega, by simp, ?_⟩
          have := Bw.fresh ((G.refl w9).alloc (.cells #[.int .u8 (64 + (L : Int))] 5)) [64 - L] #[.int .u8 (64 - (L : Int))] (by rw [EB.out]; rfl) (by unfold maxLen; simp)
          simpa using this
        case round =>
          obtain ⟨k, hk, rfl, hB2⟩ := hrel
          have hs2 := hB2.g.size
          by_cases hlt : k < L
          · obtain ⟨j, hj⟩ : ∃ j : Nat, (L : Int) - 1 - k = j := ⟨L - 1 - k, by omega⟩
            have hjL : (j : Int) < L := by omega
            obtain ⟨d, hd⟩ : ∃ d, (lowB n)[j]? = some d := ⟨_, List.getElem?_eq_getElem (by omega)⟩
            obtain ⟨g, hp, hcell⟩ := hC.out j d hd
            have hc2 : wr.cell? ⟨g, j, none⟩ = some (bv d) := (hB2.g.cell (cell_ltE hcell)).trans hcell
            have HT : Hid ((lowB n).reverse.take (k + 1) = (lowB n).reverse.take k ++ [d]) := by
              have : (lowB n).reverse[k]? = some d := by
                rw [List.getElem?_reverse (by omega), hLn, show L - 1 - k = j by omega]; exact hd
              rw [List.take_add_one, this]; rfl
            have htl : ((lowB n).reverse.take k).length ≤ 8 := by simp; omega
            have HB2 : Hid _ := hB2
            clear hB2 hd hcell
            subst hp
            rw [hj]
            go_wp2_with (at_builtin; refine wpList_append_own _ rfl _ _ 33 rfl w9.heap.size 5 i0 (.int .u8 0) 1 1 Tryz.underlying33 hi hz0 hz1 hz2 rfl (by decide) _ _ _ rfl (World.ownsRow.alloc HB2.out.own _) ⟨wr.heap.size, 0, none⟩ 1 1 [bv d] rfl ?c0 ?c1 ?c2 ?c3 ?c4 ?c5 ?_)
            case c0 => rfl
            case c1 =>
              intro j u hj
              match j, hj with
              | 0, hj => simp at hj; subst hj; simp [Addr.add]
            case c2 => first | rfl | (intro u hu; simp at hu; subst hu; rfl)
            case c3 => unfold maxLen; (first | omega | (simp at htl ⊢; omega))
            case c4 => (first | omega | (simp at htl ⊢; omega))
            case c5 => (first | omega | (simp; omega))
            intro x2 w2 hown hgrow _
            have HB3 : Hid (Bw w9 w2 x2 (((64 - L) :: (lowB n).reverse.take k) ++ [d])) := (HB2.out.keep ((G.refl _).alloc _)).app [d] 1 rfl (by simpa [show min k (lowB n).length = k by omega] using hown) hgrow
            clear hown hgrow HB2
            go_wp2
            go_roundw
            case rel => exact ⟨k + 1, by omega, by congr 1; omega, by have := HB3.out; rw [HT.out]; simpa using this⟩
            case measure => simp [RowKit.intOf]
          · have e : k = L := by omega
            subst e
            have e1 : (k : Int) - 1 - k = -1 := by omega
            rw [e1]
            have HB2 : Hid (Bw w wr u6 (encW n)) := by
              rw [HE.out]
              have := hB2.down HG.out
              rwa [List.take_of_length_le (by simp; omega)] at this
            clear hB2
            go_wp2
            go_ret
            exact ⟨_, rfl, HB2.out⟩
      · skip
        have hE : encW n = (64 + L) :: (lowB n).reverse := by
          unfold encW
          rw [if_neg hn, hLn]
        have eb : Value.int .u8 (64 + (L : Int)) = bv (64 + L) := by show Value.int .u8 _ = Value.int .u8 _; congr 1
        have EB : Hid _ := eb
        have HE : Hid _ := hE
        clear eb hE
        go_wp2
        go_loopw [6, 7] (fun y i W => ∃ k : Nat, k ≤ L ∧ i = .int .i64 ((L : Int) - 1 - k) ∧ Bw w9 W y ((64 + L) :: (lowB n).reverse.take k)) (fun _ i _ => (RowKit.intOf i + 1).toNat)
        case atStart =>
          refine ⟨0, by omega, by simp, ?_⟩
          have := Bw.fresh (G.refl w9) [64 + L] #[.int .u8 (64 + (L : Int))] (by rw [EB.out]; rfl) (by unfold maxLen; simp)
          simpa using this
        case round =>
          obtain ⟨k, hk, rfl, hB2⟩ := hrel
          have hs2 := hB2.g.size
          by_cases hlt : k < L
          · obtain ⟨j, hj⟩ : ∃ j : Nat, (L : Int) - 1 - k = j := ⟨L - 1 - k, by omega⟩
            have hjL : (j : Int) < L := by omega
            obtain ⟨d, hd⟩ : ∃ d, (lowB n)[j]? = some d := ⟨_, List.getElem?_eq_getElem (by omega)⟩
            obtain ⟨g, hp, hcell⟩ := hC.out j d hd
            have hc2 : wr.cell? ⟨g, j, none⟩ = some (bv d) := (hB2.g.cell (cell_ltE hcell)).trans hcell
            have HT : Hid ((lowB n).reverse.take (k + 1) = (lowB n).reverse.take k ++ [d]) := by
              have : (lowB n).reverse[k]? = some d := by
                rw [List.getElem?_reverse (by omega), hLn, show L - 1 - k = j by omega]; exact hd
              rw [List.take_add_one, this]; rfl
            have htl : ((lowB n).reverse.take k).length ≤ 8 := by simp; omega
            have HB2 : Hid _ := hB2
            clear hB2 hd hcell
            subst hp
            rw [hj]
            go_wp2_with (at_builtin; refine wpList_append_own _ rfl _ _ 33 rfl w9.heap.size 5 i0 (.int .u8 0) 1 1 Tryz.underlying33 hi hz0 hz1 hz2 rfl (by decide) _ _ _ rfl (World.ownsRow.alloc HB2.out.own _) ⟨wr.heap.size, 0, none⟩ 1 1 [bv d] rfl ?c0 ?c1 ?c2 ?c3 ?c4 ?c5 ?_)
            case c0 => rfl
            case c1 =>
              intro j u hj
              match j, hj with
              | 0, hj => simp at hj; subst hj; simp [Addr.add]
            case c2 => first | rfl | (intro u hu; simp at hu; subst hu; rfl)
            case c3 => unfold maxLen; (first | omega | (simp at htl ⊢; omega))
            case c4 => (first | omega | (simp at htl ⊢; omega))
            case c5 => (first | omega | (simp; omega))
            intro x2 w2 hown hgrow _
            have HB3 : Hid (Bw w9 w2 x2 (((64 + L) :: (lowB n).reverse.take k) ++ [d])) := (HB2.out.keep ((G.refl _).alloc _)).app [d] 1 rfl (by simpa [show min k (lowB n).length = k by omega] using hown) hgrow
            clear hown hgrow HB2
            go_wp2
            go_roundw
            case rel => exact ⟨k + 1, by omega, by congr 1; omega, by have := HB3.out; rw [HT.out]; simpa using this⟩
            case measure => simp [RowKit.intOf]
          · have e : k = L := by omega
            subst e
            have e1 : (k : Int) - 1 - k = -1 := by omega
            rw [e1]
            have HB2 : Hid (Bw w wr u6 (encW n)) := by
              rw [HE.out]
              have := hB2.down HG.out
              rwa [List.take_of_length_le (by simp; omega)] at this
            clear hB2
            go_wp2
            go_ret
            exact ⟨_, rfl, HB2.out⟩
    · have hne : (-(q : Int) != 0) = true := by simp; omega
      rw [digs_pos h0, List.map_cons] at hd
      have hdl : done.length ≤ 8 := by have := congrArg List.length hd; simp at this; omega
      by_cases hn : n < 0
      · have eb : Value.int .u8 (255 - (q : Int) % 256) = bv (flipB n (q % 256)) := by
          unfold flipB
          rw [if_pos hn]
          show Value.int .u8 _ = Value.int .u8 _
          congr 1; omega
        have EB : Hid _ := eb
        have HD : Hid ((done ++ [flipB n (q % 256)]) ++ (digs (q / 256)).map (flipB n) = lowB n) := by rw [List.append_assoc]; exact hd
        clear hd eb
        go_wp2_with (at_builtin; refine wpList_append_own _ rfl _ _ 33 rfl w.heap.size 5 i0 (.int .u8 0) 1 1 Tryz.underlying33 hi hz0 hz1 hz2 rfl (by decide) _ _ _ rfl (World.ownsRow.alloc HB.out.own _) ⟨wr.heap.size, 0, none⟩ 1 1 [.int .u8 (255 - (q : Int) % 256)] rfl ?c0 ?c1 ?c2 ?c3 ?c4 ?c5 ?_)
        case c0 => rfl
        case c1 =>
          intro j u hj
          match j, hj with
          | 0, hj => simp at hj; subst hj; simp [Addr.add]
        case c2 => first | rfl | (intro u hu; simp at hu; subst hu; rfl)
        case c3 => unfold maxLen; (first | omega | (simp; omega))
        case c4 => (first | omega | (simp; omega))
        case c5 => (first | omega | (simp; omega))
        intro x2 w2 hown hgrow _
        have HB2 : Hid (Bw w w2 x2 (done ++ [flipB n (q % 256)])) := (HB.out.keep ((G.refl _).alloc _)).app [flipB n (q % 256)] 1 rfl (by rw [EB.out] at hown; exact hown) hgrow
        clear hown hgrow HB
        go_wp2
        go_roundw
        case rel => exact ⟨q / 256, _, by simp, by omega, HD.out, HB2.out⟩
        case measure => simp [RowKit.intOf]; omega
      · have eb : Value.int .u8 ((q : Int) % 256) = bv (flipB n (q % 256)) := by
          unfold flipB
          rw [if_neg hn]
          show Value.int .u8 _ = Value.int .u8 _
          congr 1
        have EB : Hid _ := eb
        have HD : Hid ((done ++ [flipB n (q % 256)]) ++ (digs (q / 256)).map (flipB n) = lowB n) := by rw [List.append_assoc]; exact hd
        clear hd eb
        go_wp2_with (at_builtin; refine wpList_append_own _ rfl _ _ 33 rfl w.heap.size 5 i0 (.int .u8 0) 1 1 Tryz.underlying33 hi hz0 hz1 hz2 rfl (by decide) _ _ _ rfl (World.ownsRow.alloc HB.out.own _) ⟨wr.heap.size, 0, none⟩ 1 1 [.int .u8 ((q : Int) % 256)] rfl ?c0 ?c1 ?c2 ?c3 ?c4 ?c5 ?_)
        case c2 => first | rfl | (intro u hu; simp at hu; subst hu; rfl)
        case c3 => unfold maxLen; (first | omega | (simp; omega))
        case c4 => (first | omega | (simp; omega))
        case c5 => (first | omega | (simp; omega))
        intro x2 w2 hown hgrow _
        have HB2 : Hid (Bw w w2 x2 (done ++ [flipB n (q % 256)])) := (HB.out.keep ((G.refl _).alloc _)).app [flipB n (q % 256)] 1 rfl (by rw [EB.out] at hown; exact hown) hgrow
        clear hown hgrow HB
        go_wp2
        go_roundw
        case rel => exact ⟨q / 256, _, by simp, by omega, HD.out, HB2.out⟩
        case measure => simp [RowKit.intOf]; omega
end Go.Proofs.YtficmpaeochcgaaGreatDoor
