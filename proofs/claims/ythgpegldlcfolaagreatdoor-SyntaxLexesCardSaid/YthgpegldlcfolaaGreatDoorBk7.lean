/- value.firstByte. -/
import Derived.Test.YthgpegldlcfolaaGreatDoorBk6
import Derived.Test.YthgpegldlcfolaaGreatDoorShB11
namespace Go.Proofs.YthgpegldlcfolaaGreatDoor
open Go.RowKit Go.Lib Go.Shelf

set_option maxRecDepth 100000 in
set_option maxHeartbeats 4000000 in
theorem pU_any (x y : UInt8) (w : World) (hE : Env w) : Calls Tryz.prog 19 #[.string (strU [x, y]), .int .i64 16, .int .i64 8] w fun e w' => ∃ (u : Int) (ev : Value), e = .returned (.tuple #[.int .u64 u, ev]) ∧ (0 ≤ u ∧ u < 256) ∧ (∀ p q, dgF x.toNat = some p → dgF y.toNat = some q → u = 16 * p + q) ∧ G w w' := by
  have HP : Hid _ := pu_any x y
  have HE : Hid _ := hE
  clear hE
  go_enter Tryz.func19, Tryz.ntmps19
  go_wp2_with fail
  refine (HP.out w).mono ?_
  rintro e w1 ⟨hc, hg⟩
  rcases hc with ⟨p, q, hp, hq, rfl⟩ | ⟨hn, rfl⟩
  · have hb1 := dgF_bd hp
    have hb2 := dgF_bd hq
    have HA : Hid (∀ p' q', dgF x.toNat = some p' → dgF y.toNat = some q' → 16 * p + q = 16 * p' + q') := fun p' q' h h' => by
      rw [hp] at h; rw [hq] at h'; cases h; cases h'; rfl
    have HB : Hid (0 ≤ 16 * p + q ∧ 16 * p + q < 256) := by unfold Hid; omega
    have HG : Hid _ := hg
    clear hp hq hb1 hb2 hg
    go_wp2
    go_ret2
    exact ⟨_, _, rfl, HB.out, HA.out, HG.out⟩
  · obtain ⟨tp, pp, hv⟩ := (HE.out.G hg).s
    have hcell : w1.cell? ⟨5, 0, none⟩ = some (.iface tp pp) := by
      have hgn : Tryz.prog.globalNamed "strconv.ErrSyntax" = some 5 := by kernel_rfl
      have := World.var?_cell hgn hv 0
      simpa using this
    have HT : Hid (Calls Tryz.prog 34 #[.string ⟨#[80, 97, 114, 115, 101, 85, 105, 110, 116]⟩, .string (strU [x, y]), .int .i64 16, .int .i64 8, .iface 57 (.int .i64 2)] w1 fun e w' => ∃ ev, e = .returned ev ∧ G w1 w') := by
      refine (Any.strconv_toError_syntax Tryz.laysToError ⟨#[80, 97, 114, 115, 101, 85, 105, 110, 116]⟩ (strU [x, y]) 16 8 (.iface tp pp) w1 (by show 2 ≤ _; decide) hcell (.inr ⟨tp, pp, rfl⟩)).mono ?_
      rintro e w' ⟨N, rfl, _, _, hb⟩
      exact ⟨_, rfl, hb⟩
    have HA : Hid (∀ p' q', dgF x.toNat = some p' → dgF y.toNat = some q' → (0 : Int) = 16 * p' + q') := fun p' q' h h' => by
      rcases hn with hn | hn
      · rw [hn] at h; cases h
      · rw [hn] at h'; cases h'
    have HG : Hid (G w w1) := hg
    clear hn hg hcell hv
    go_wp2_with fail
    refine HT.out.mono ?_
    rintro e w2 ⟨ev, rfl, hg2⟩
    have HG2 : Hid (G w w2) := HG.out.trans hg2
    clear hg2
    go_wp2
    go_ret2
    exact ⟨_, _, rfl, by decide, HA.out, HG2.out⟩
theorem bat (s : ByteArray) (i : Nat) (c : UInt8) (h : s.data.toList[i]? = some c) (hl : i < s.size) : s[i]'hl = c := by
  have := (List.getElem?_eq_some_iff.1 h).2
  rw [Array.getElem_toList] at this
  exact this
def ltr : Nat → UInt8 | 0 => 92 | 1 => 39 | 2 => 110 | 3 => 116 | _ => 114
set_option maxRecDepth 100000 in
set_option maxHeartbeats 4000000 in
theorem fb_any (s : ByteArray) (hs : s.size ≤ 140737488355328) (hne : 0 < s.size) (w : World) (hE : Env w) : Calls Tryz.prog 72 #[.string s] w fun e w' => ∃ (c : UInt8) (n : Nat), e = .returned (.tuple #[.int .u8 c.toNat, .int .i64 n]) ∧ FB s.data.toList c n ∧ G w w' := by
  have hlen : s.data.toList.length = s.size := by rw [Array.length_toList]; rfl
  obtain ⟨c0, r, hl⟩ : ∃ c r, s.data.toList = c :: r := by
    cases h : s.data.toList with
    | nil => rw [h] at hlen; simp at hlen; omega
    | cons c r => exact ⟨c, r, rfl⟩
  have hi0 : ∀ h : 0 < s.size, s[0]'h = c0 := fun h => bat s 0 c0 (by rw [hl]; rfl) h
  by_cases hc0 : c0 = 92
  · subst hc0
    cases r with
    | nil =>
      have hsz : s.size = 1 := by rw [← hlen, hl]; rfl
      have HS : Hid _ := hl
      clear hl hlen hE
      go_enter Tryz.func72, Tryz.ntmps72
      go_wp2
      go_ret2
      exact ⟨92, 1, rfl, by rw [HS.out]; exact fb_short, G.refl _⟩
    | cons l r' =>
      have hsz : 2 ≤ s.size := by rw [← hlen, hl]; simp
      have hI2 : ¬ (s.size : Int) < 2 := by omega
      have hi1 : ∀ h : 1 < s.size, s[1]'h = l := fun h => bat s 1 l (by rw [hl]; rfl) h
      have hcc := esc_cells hE
      have HE : Hid _ := hE
      have HS : Hid (s.data.toList = 92 :: l :: r') := hl
      have HLn : Hid _ := hlen
      clear hl hlen hE
      go_enter Tryz.func72, Tryz.ntmps72
      go_wp2
      go_loopw [19] (fun i W => ∃ k : Nat, k ≤ 5 ∧ i = .int .i64 k ∧ G w W ∧ ∀ j, j < k → l ≠ ltr j) (fun i _ => 5 - (RowKit.intOf i).toNat)
      case atStart => exact ⟨0, by decide, rfl, G.refl _, fun j hj => absurd hj (Nat.not_lt_zero j)⟩
      case round =>
        obtain ⟨k, hk, rfl, hG, hn⟩ := hrel
        have HG : Hid (G w wr) := hG
        have HN : Hid _ := hn
        clear hG hn
        have hk' : k = 0 ∨ k = 1 ∨ k = 2 ∨ k = 3 ∨ k = 4 ∨ k = 5 := by omega
        rcases hk' with rfl | rfl | rfl | rfl | rfl | rfl
        · have hix := ix_0
          by_cases hr : l = 92
          · subst hr
            go_wp2
            go_quiet (fail)
            go_wp2
            go_ret2
            exact ⟨92, 2, rfl, by rw [HS.out]; exact fb_letter 92 92 (.inl ⟨rfl, rfl⟩) r', by repeat (first | exact HG.out | refine G.drewM ?_ _ | refine G.drew ?_ | refine G.alloc ?_ _)⟩
          · have hrb : ((l.toNat : Int) == 92) = false := beq_false_of_ne (fun e => hr (UInt8.toNat_inj.1 (by show l.toNat = 92; omega)))
            go_wp2
            go_quiet (fail)
            go_wp2
            exact ⟨⟨1, by decide, rfl, by repeat (first | exact HG.out | refine G.drewM ?_ _ | refine G.drew ?_ | refine G.alloc ?_ _), fun j hj => by
              rcases Nat.lt_succ_iff_lt_or_eq.1 hj with h | h
              · exact HN.out j h
              · subst h; exact hr⟩, by decide⟩
        · have hix := ix_1
          by_cases hr : l = 39
          · subst hr
            go_wp2
            go_quiet (fail)
            go_wp2
            go_ret2
            exact ⟨39, 2, rfl, by rw [HS.out]; exact fb_letter 39 39 (.inr (.inl ⟨rfl, rfl⟩)) r', by repeat (first | exact HG.out | refine G.drewM ?_ _ | refine G.drew ?_ | refine G.alloc ?_ _)⟩
          · have hrb : ((l.toNat : Int) == 39) = false := beq_false_of_ne (fun e => hr (UInt8.toNat_inj.1 (by show l.toNat = 39; omega)))
            go_wp2
            go_quiet (fail)
            go_wp2
            exact ⟨⟨2, by decide, rfl, by repeat (first | exact HG.out | refine G.drewM ?_ _ | refine G.drew ?_ | refine G.alloc ?_ _), fun j hj => by
              rcases Nat.lt_succ_iff_lt_or_eq.1 hj with h | h
              · exact HN.out j h
              · subst h; exact hr⟩, by decide⟩
        · have hix := ix_2
          by_cases hr : l = 110
          · subst hr
            go_wp2
            go_quiet (fail)
            go_wp2
            go_ret2
            exact ⟨10, 2, rfl, by rw [HS.out]; exact fb_letter 10 110 (.inr (.inr (.inl ⟨rfl, rfl⟩))) r', by repeat (first | exact HG.out | refine G.drewM ?_ _ | refine G.drew ?_ | refine G.alloc ?_ _)⟩
          · have hrb : ((l.toNat : Int) == 110) = false := beq_false_of_ne (fun e => hr (UInt8.toNat_inj.1 (by show l.toNat = 110; omega)))
            go_wp2
            go_quiet (fail)
            go_wp2
            exact ⟨⟨3, by decide, rfl, by repeat (first | exact HG.out | refine G.drewM ?_ _ | refine G.drew ?_ | refine G.alloc ?_ _), fun j hj => by
              rcases Nat.lt_succ_iff_lt_or_eq.1 hj with h | h
              · exact HN.out j h
              · subst h; exact hr⟩, by decide⟩
        · have hix := ix_3
          by_cases hr : l = 116
          · subst hr
            go_wp2
            go_quiet (fail)
            go_wp2
            go_ret2
            exact ⟨9, 2, rfl, by rw [HS.out]; exact fb_letter 9 116 (.inr (.inr (.inr (.inl ⟨rfl, rfl⟩)))) r', by repeat (first | exact HG.out | refine G.drewM ?_ _ | refine G.drew ?_ | refine G.alloc ?_ _)⟩
          · have hrb : ((l.toNat : Int) == 116) = false := beq_false_of_ne (fun e => hr (UInt8.toNat_inj.1 (by show l.toNat = 116; omega)))
            go_wp2
            go_quiet (fail)
            go_wp2
            exact ⟨⟨4, by decide, rfl, by repeat (first | exact HG.out | refine G.drewM ?_ _ | refine G.drew ?_ | refine G.alloc ?_ _), fun j hj => by
              rcases Nat.lt_succ_iff_lt_or_eq.1 hj with h | h
              · exact HN.out j h
              · subst h; exact hr⟩, by decide⟩
        · have hix := ix_4
          by_cases hr : l = 114
          · subst hr
            go_wp2
            go_quiet (fail)
            go_wp2
            go_ret2
            exact ⟨13, 2, rfl, by rw [HS.out]; exact fb_letter 13 114 (.inr (.inr (.inr (.inr ⟨rfl, rfl⟩)))) r', by repeat (first | exact HG.out | refine G.drewM ?_ _ | refine G.drew ?_ | refine G.alloc ?_ _)⟩
          · have hrb : ((l.toNat : Int) == 114) = false := beq_false_of_ne (fun e => hr (UInt8.toNat_inj.1 (by show l.toNat = 114; omega)))
            go_wp2
            go_quiet (fail)
            go_wp2
            exact ⟨⟨5, by decide, rfl, by repeat (first | exact HG.out | refine G.drewM ?_ _ | refine G.drew ?_ | refine G.alloc ?_ _), fun j hj => by
              rcases Nat.lt_succ_iff_lt_or_eq.1 hj with h | h
              · exact HN.out j h
              · subst h; exact hr⟩, by decide⟩
        · have HLE : Hid (l ≠ 92 ∧ l ≠ 39 ∧ l ≠ 110 ∧ l ≠ 116 ∧ l ≠ 114) := ⟨HN.out 0 (by decide), HN.out 1 (by decide), HN.out 2 (by decide), HN.out 3 (by decide), HN.out 4 (by decide)⟩
          clear HN
          by_cases h120 : l = 120
          · subst h120
            by_cases h4 : s.size < 4
            · have hI4 : (s.size : Int) < 4 := by omega
              have HR : Hid (r'.length < 2) := by
                have := HLn.out
                rw [HS.out] at this
                simp at this
                unfold Hid; omega
              go_wp2
              go_ret2
              exact ⟨92, 1, rfl, by rw [HS.out]; exact fb_none 120 r' HLE.out (.inr HR.out), HG.out⟩
            · have hI4 : ¬ (s.size : Int) < 4 := by omega
              obtain ⟨x, y, r2, rfl⟩ : ∃ x y r2, r' = x :: y :: r2 := by
                have := HLn.out
                rw [HS.out] at this
                match r', this with
                | [], h => simp at h; omega
                | [a], h => simp at h; omega
                | a :: b :: t, _ => exact ⟨a, b, t, rfl⟩
              have hex : s.extract 2 4 = strU [x, y] := by
                apply ByteArray.ext
                rw [ByteArray.data_extract]
                apply Array.ext'
                rw [Array.toList_extract, HS.out]
                rfl
              have HPU : Hid _ := pU_any x y wr (HE.out.G HG.out)
              go_wp2_with fail
              refine Calls.mono HPU.out ?_
              rintro e w2 ⟨u, ev, rfl, ⟨hu0, hu1⟩, hval, hg⟩
              have HGX : Hid (G w w2) := G.trans HG.out hg
              have HFB : Hid (FB (92 :: 120 :: x :: y :: r2) (UInt8.ofNat u.toNat) 4) := fb_hex x y r2 _ (fun p q hp hq e1 e2 => by
                have := hval p q (by rw [e1]; exact dgF_hx p hp) (by rw [e2]; exact dgF_hx q hq)
                congr 1; omega)
              have hun : ((UInt8.ofNat u.toNat).toNat : Int) = u := by rw [UInt8.toNat_ofNat']; omega
              have HUN : Hid _ := hun
              clear hval hg hun
              go_wp2
              go_ret2
              refine ⟨UInt8.ofNat u.toNat, 4, ?_, by rw [HS.out]; exact HFB.out, HGX.out⟩
              rw [HUN.out]; rfl
          · have k120 : ((l.toNat : Int) == 120) = false := beq_false_of_ne (fun e => h120 (UInt8.toNat_inj.1 (by show l.toNat = 120; omega)))
            have k2 : ¬ (l.toNat : Int) = 120 := fun e => h120 (UInt8.toNat_inj.1 (by show l.toNat = 120; omega))
            have k3 : ¬ l.toNat = 120 := by omega
            have k4 : ((l.toNat : Int) != 120) = true := by simp [bne, k120]
            go_wp2
            go_ret2
            exact ⟨92, 1, rfl, by rw [HS.out]; exact fb_none l r' HLE.out (.inl h120), HG.out⟩
  · have k1 : ((c0.toNat : Int) == 92) = false := beq_false_of_ne (fun e => hc0 (UInt8.toNat_inj.1 (by show c0.toNat = 92; omega)))
    have k2 : ¬ (c0.toNat : Int) = 92 := fun e => hc0 (UInt8.toNat_inj.1 (by show c0.toNat = 92; omega))
    have k3 : ¬ c0.toNat = 92 := by omega
    have k4 : ((c0.toNat : Int) != 92) = true := by simp [bne, k1]
    have HS : Hid _ := hl
    clear hl hlen hE
    go_enter Tryz.func72, Tryz.ntmps72
    go_wp2
    go_ret2
    exact ⟨c0, 1, rfl, by rw [HS.out]; exact fb_plain hc0, G.refl _⟩
end Go.Proofs.YthgpegldlcfolaaGreatDoor
