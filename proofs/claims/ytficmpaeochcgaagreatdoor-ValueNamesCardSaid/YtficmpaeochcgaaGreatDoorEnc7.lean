/- Rows of bytes that are there; trellisref1.joined; trellislaw1.same. -/
import Derived.Test.YtficmpaeochcgaaGreatDoorEnc6
import Derived.Deep.Draws
namespace Go.Proofs.YtficmpaeochcgaaGreatDoor
open Go.RowKit Go.Shelf Go.PlainAid Go.Lib

theorem G.drewNE {a w : World} (h : G a w) (n : Nat) : G a (w.drewN n) := h.trans ⟨rfl, rfl, rfl, Nat.le_refl _, fun _ _ => rfl⟩
/-- x is a slice that holds these bytes. -/
def RowB (W : World) (x : Value) (xs : List Nat) : Prop := ∃ (p : Option Addr) (cap : Nat), x = .slice p xs.length cap ∧ xs.length ≤ cap ∧ ∀ i d, xs[i]? = some d → ∃ g o, p = some ⟨g, o, none⟩ ∧ W.cell? ⟨g, o + i, none⟩ = some (bv d)
theorem RowB.G {w w' : World} {x : Value} {xs : List Nat} (h : RowB w x xs) (g : G w w') : RowB w' x xs := by
  obtain ⟨p, cap, rfl, hc, hr⟩ := h
  refine ⟨p, cap, rfl, hc, fun i d hi => ?_⟩
  obtain ⟨k, o, rfl, hcell⟩ := hr i d hi
  exact ⟨k, o, rfl, (g.cell (cell_ltE hcell)).trans hcell⟩
theorem Bw.row {w0 W : World} {x : Value} {xs : List Nat} (h : Bw w0 W x xs) : RowB W x xs := by
  rcases h.at with ⟨rfl, rfl⟩ | ⟨g, cap, rfl, _, _, hcap, hc⟩
  · exact ⟨none, 0, rfl, by simp, fun i d hi => by simp at hi⟩
  · exact ⟨_, cap, rfl, hcap, fun i d hi => ⟨g, 0, rfl, by rw [Nat.zero_add]; exact hc i d hi⟩⟩
set_option maxRecDepth 100000 in
set_option maxHeartbeats 2000000 in
theorem joined_any (a b : Value) (xs ys : List Nat) (w : World) (ha : RowB w a xs) (hb : RowB w b ys) (hx : xs.length ≤ 1000) (hy : ys.length ≤ 1000) :
    Calls Tryz.prog 30 #[a, b] w fun e w' => ∃ x', e = .returned x' ∧ Bw w w' x' (xs ++ ys) := by
  obtain ⟨i0, hi, hz0, hz1, hz2⟩ := info_parts info_u8
  obtain ⟨pa, ca, rfl, hca, ha⟩ := ha
  obtain ⟨pb, cb, rfl, hcb, hb⟩ := hb
  have HA : Hid _ := ha
  have HBb : Hid _ := hb
  clear ha hb
  go_enter Tryz.func30, Tryz.ntmps30
  go_wp2
  go_loopw [5, 6] (fun y i W => ∃ k : Nat, k ≤ xs.length ∧ i = .int .i64 k ∧ Bw w W y (xs.take k)) (fun _ i _ => xs.length - (RowKit.intOf i).toNat)
  case atStart => exact ⟨0, Nat.zero_le _, rfl, Bw.nil w w (G.refl w)⟩
  case round =>
    obtain ⟨k, hk, rfl, hB⟩ := hrel
    have hs := hB.g.size
    by_cases hlt : k < xs.length
    · skip
      obtain ⟨d, hd⟩ : ∃ d, xs[k]? = some d := ⟨_, List.getElem?_eq_getElem hlt⟩
      obtain ⟨g, o, hp, hcell⟩ := HA.out k d hd
      have hc2 : wr.cell? ⟨g, o + k, none⟩ = some (bv d) := (hB.g.cell (cell_ltE hcell)).trans hcell
      have HT : Hid (xs.take (k + 1) = (xs.take k ++ [d])) := by rw [List.take_add_one, hd]; rfl
      have htl : (xs.take k).length = k := by simp; omega
      have hkI : (k : Int) < (xs.length : Int) := by omega
      have HB : Hid _ := hB
      clear hB hd hcell
      subst hp
      go_wp2_with (at_builtin; refine wpList_append_own _ rfl _ _ 33 rfl w.heap.size 5 i0 (.int .u8 0) 1 1 Tryz.underlying33 hi hz0 hz1 hz2 rfl (by decide) _ _ _ rfl (World.ownsRow.alloc HB.out.own _) ⟨wr.heap.size, 0, none⟩ 1 1 [bv d] rfl ?c0 ?c1 ?c2 ?c3 ?c4 ?c5 ?_)
      case c0 => rfl
      case c1 =>
        intro j u hj
        match j, hj with
        | 0, hj => simp at hj; subst hj; simp [Addr.add]
      case c2 => first | rfl | (intro u hu; simp at hu; subst hu; rfl)
      case c3 => unfold maxLen; (first | omega | (simp at htl ⊢; omega))
      case c4 => (first | omega | (simp at htl ⊢; omega))
      case c5 => (first | omega | (simp; omega))
      intro x2 w2 hown hgrow _
      have HB3 : Hid (Bw w w2 x2 (xs.take k ++ [d])) := (HB.out.keep ((G.refl _).alloc _)).app [d] 1 rfl (by simpa [show min k xs.length = k by omega] using hown) hgrow
      clear hown hgrow HB
      go_wp2
      go_roundw
      case rel => exact ⟨k + 1, by omega, by go_num, by rw [HT.out]; exact HB3.out⟩
      case measure => simp [RowKit.intOf]; omega
    · have e : xs.take k = xs := List.take_of_length_le (by omega)
      rw [e] at hB
      have hkI : ¬ (k : Int) < (xs.length : Int) := by omega
      have HB0 : Hid (Bw w wr u5 xs) := hB
      clear hB e
      go_wp2
      go_loopw [5, 7] (fun y i W => ∃ k : Nat, k ≤ ys.length ∧ i = .int .i64 k ∧ Bw w W y (xs ++ ys.take k)) (fun _ i _ => ys.length - (RowKit.intOf i).toNat)
      case atStart => exact ⟨0, Nat.zero_le _, rfl, by simpa using HB0.out⟩
      case round =>
        clear HB0 hs hlt hk
        obtain ⟨k, hk, rfl, hB⟩ := hrel
        have hs := hB.g.size
        by_cases hlt : k < ys.length
        · skip
          obtain ⟨d, hd⟩ : ∃ d, ys[k]? = some d := ⟨_, List.getElem?_eq_getElem hlt⟩
          obtain ⟨g, o, hp, hcell⟩ := HBb.out k d hd
          have hc2 : wr.cell? ⟨g, o + k, none⟩ = some (bv d) := (hB.g.cell (cell_ltE hcell)).trans hcell
          have HT : Hid (ys.take (k + 1) = (ys.take k ++ [d])) := by rw [List.take_add_one, hd]; rfl
          have htl : (ys.take k).length = k := by simp; omega
          have hkI : (k : Int) < (ys.length : Int) := by omega
          have HB : Hid _ := hB
          clear hB hd hcell
          subst hp
          go_wp2_with (at_builtin; refine wpList_append_own _ rfl _ _ 33 rfl w.heap.size 5 i0 (.int .u8 0) 1 1 Tryz.underlying33 hi hz0 hz1 hz2 rfl (by decide) _ _ _ rfl (World.ownsRow.alloc HB.out.own _) ⟨wr.heap.size, 0, none⟩ 1 1 [bv d] rfl ?c0 ?c1 ?c2 ?c3 ?c4 ?c5 ?_)
          case c0 => rfl
          case c1 =>
            intro j u hj
            match j, hj with
            | 0, hj => simp at hj; subst hj; simp [Addr.add]
          case c2 => first | rfl | (intro u hu; simp at hu; subst hu; rfl)
          case c3 => unfold maxLen; (first | omega | (simp at htl ⊢; omega))
          case c4 => (first | omega | (simp at htl ⊢; omega))
          case c5 => (first | omega | (simp; omega))
          intro x2 w2 hown hgrow _
          have HB3 : Hid (Bw w w2 x2 ((xs ++ ys.take k) ++ [d])) := (HB.out.keep ((G.refl _).alloc _)).app [d] 1 rfl (by simpa [show min k ys.length = k by omega] using hown) hgrow
          clear hown hgrow HB
          go_wp2
          go_roundw
          case rel => exact ⟨k + 1, by omega, by go_num, by rw [HT.out, ← List.append_assoc]; exact HB3.out⟩
          case measure => simp [RowKit.intOf]; omega
        · have e : ys.take k = ys := List.take_of_length_le (by omega)
          rw [e] at hB
          have hkI : ¬ (k : Int) < (ys.length : Int) := by omega
          have HB0 : Hid (Bw w wr u5 (xs ++ ys)) := hB
          clear hB e
          go_wp2
          go_ret
          exact ⟨_, rfl, HB0.out⟩
set_option maxRecDepth 100000 in
set_option maxHeartbeats 2000000 in
theorem same_yes (a b : Value) (xs : List Nat) (w : World) (ha : RowB w a xs) (hb : RowB w b xs) (hx : xs.length ≤ 1073741824) : Calls Tryz.prog 13 #[a, b] w fun e w' => e = .returned (.bool true) ∧ G w w' := by
  obtain ⟨pa, ca, rfl, hca, ha⟩ := ha
  obtain ⟨pb, cb, rfl, hcb, hb⟩ := hb
  have HA : Hid _ := ha
  have HB : Hid _ := hb
  clear ha hb
  go_enter Tryz.func13, Tryz.ntmps13
  go_wp2
  go_loopw [5] (fun i W => ∃ k : Nat, k ≤ xs.length ∧ i = .int .i64 k ∧ G w W) (fun i _ => xs.length - (RowKit.intOf i).toNat)
  case atStart => exact ⟨0, Nat.zero_le _, rfl, G.refl _⟩
  case round =>
    obtain ⟨k, hk, rfl, hG⟩ := hrel
    by_cases hlt : k < xs.length
    · obtain ⟨d, hd⟩ : ∃ d, xs[k]? = some d := ⟨_, List.getElem?_eq_getElem hlt⟩
      obtain ⟨g, o, hp, hcell⟩ := HA.out k d hd
      obtain ⟨g', o', hp', hcell'⟩ := HB.out k d hd
      have hc1 : wr.cell? ⟨g, o + k, none⟩ = some (bv d) := (hG.cell (cell_ltE hcell)).trans hcell
      have hc2 : wr.cell? ⟨g', o' + k, none⟩ = some (bv d) := (hG.cell (cell_ltE hcell')).trans hcell'
      have hkI : (k : Int) < (xs.length : Int) := by omega
      have HG : Hid _ := hG
      clear hG hd hcell hcell'
      subst hp hp'
      go_wp2
      go_quiet (fail)
      go_wp2
      go_roundw
      case rel => exact ⟨k + 1, by omega, by go_num, by repeat (first | exact HG.out | refine G.drewNE ?_ _ | refine G.drew ?_)⟩
      case measure => simp [RowKit.intOf]; omega
    · have hkI : ¬ (k : Int) < (xs.length : Int) := by omega
      have HG : Hid _ := hG
      clear hG
      go_wp2
      go_ret
      exact ⟨rfl, HG.out⟩
end Go.Proofs.YtficmpaeochcgaaGreatDoor
