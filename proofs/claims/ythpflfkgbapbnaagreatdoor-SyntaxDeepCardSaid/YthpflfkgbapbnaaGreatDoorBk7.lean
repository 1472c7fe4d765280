/- value.firstByte. -/
import Derived.Test.YthpflfkgbapbnaaGreatDoorBk5
import Derived.OpenShut
import Derived.Test.YthpflfkgbapbnaaGreatDoorShB11
namespace Go.Proofs.YthpflfkgbapbnaaGreatDoor
section
open Go.RowKit Go.Lib Go.Shelf

def lowF (c : Int) : Int := bits BinOp.or IntKind.u8 c 32
theorem lowF_bd (c : Int) : 0 ≤ lowF c ∧ lowF c ≤ 255 := bounds_u8 (wf_bits BinOp.or IntKind.u8 c 32)
theorem lowF_hex (c : Int) (h1 : 97 ≤ c) (h2 : c ≤ 102) : lowF c = c := by
  have : c = 97 ∨ c = 98 ∨ c = 99 ∨ c = 100 ∨ c = 101 ∨ c = 102 := by omega
  rcases this with rfl | rfl | rfl | rfl | rfl | rfl <;> decide
theorem lower_any (c : Int) (w : World) : Calls Tryz.prog 111 #[.int .u8 c] w fun e w' => e = .returned (.int .u8 (lowF c)) ∧ w' = w := by
  go_enter Tryz.func111, Tryz.ntmps111
  go_wp2
  go_ret
  exact ⟨rfl, rfl⟩
/-- The digit that a letter is, at base 16. -/
noncomputable def dgF (c : Int) : Option Int := if 48 ≤ c ∧ c ≤ 57 then some (c - 48) else if 97 ≤ lowF c ∧ lowF c ≤ 102 then some (lowF c - 87) else none
theorem hx_nat : ∀ d, d < 16 → (hx d).toNat = if d < 10 then 48 + d else 87 + d := by decide
theorem dgF_hx (d : Nat) (h : d < 16) : dgF ((hx d).toNat : Int) = some (d : Int) := by
  rw [hx_nat d h]
  unfold dgF
  by_cases c : d < 10
  · rw [if_pos c, if_pos (by omega)]; congr 1; omega
  · rw [if_neg c, if_neg (by omega), lowF_hex _ (by omega) (by omega), if_pos (by omega)]; congr 1; omega
theorem dgF_bd {c d : Int} (h : dgF c = some d) : 0 ≤ d ∧ d < 16 := by
  unfold dgF at h
  by_cases c1 : 48 ≤ c ∧ c ≤ 57
  · rw [if_pos c1] at h; cases h; omega
  · rw [if_neg c1] at h
    by_cases c2 : 97 ≤ lowF c ∧ lowF c ≤ 102
    · rw [if_pos c2] at h; cases h; omega
    · rw [if_neg c2] at h; cases h
set_option maxRecDepth 100000 in
set_option maxHeartbeats 4000000 in
theorem pu_any (x y : UInt8) (w : World) : Calls Tryz.prog 92 #[.string (strU [x, y]), .int .i64 16, .int .i64 8] w fun e w' =>
    ((∃ p q : Int, dgF x.toNat = some p ∧ dgF y.toNat = some q ∧ e = .returned (.tuple #[.int .u64 (16 * p + q), .nilIface])) ∨ ((dgF x.toNat = none ∨ dgF y.toNat = none) ∧ e = .returned (.tuple #[.int .u64 0, .iface 160 (.int .i64 2)]))) ∧ G w w' := by
  have hem : (strU [x, y]).toList.isEmpty = false := by rw [ByteArray.toList_eq]; rfl
  have hsz : (strU [x, y]).size = 2 := rfl
  have hcv : (convert 9 68 (.string (strU [x, y]))).run Tryz.prog w = .ok (.slice (some ⟨w.heap.size, 0, none⟩) 2 (grownCap w 2 0 5)) (bytesWorld w 5 (strU [x, y])) := Lib.run_convert_string_bytes w 9 68 5 (strU [x, y]) Tryz.underlying9 Tryz.underlying68 Tryz.underlying5
  have HG : Hid (G w (bytesWorld w 5 (strU [x, y]))) := ⟨rfl, rfl, rfl, by rw [bytesWorld_size]; omega, fun j hj => bytesWorld_at_old w 5 _ j hj⟩
  have h0 : (bytesWorld w 5 (strU [x, y])).cell? ⟨w.heap.size, 0, none⟩ = some (.int .u8 x.toNat) := bytesWorld_cell w 5 (strU [x, y]) 0 (by show 0 < 2; decide)
  have h1 : (bytesWorld w 5 (strU [x, y])).cell? ⟨w.heap.size, 1, none⟩ = some (.int .u8 y.toNat) := bytesWorld_cell w 5 (strU [x, y]) 1 (by show 1 < 2; decide)
  have hxl := x.toNat_lt
  have hyl := y.toNat_lt
  generalize hwb : bytesWorld w 5 (strU [x, y]) = wb at hcv HG h0 h1
  clear hwb
  have HL : Hid (∀ c w, Calls Tryz.prog 111 #[.int .u8 c] w fun e w' => e = .returned (.int .u8 (lowF c)) ∧ w' = w) := lower_any
  go_enter Tryz.func92, Tryz.ntmps92
  go_wp2_with fail
  go_loopw [12, 13, 101] (fun u n i W => ∃ m : Nat, m ≤ 2 ∧ i = .int .i64 m ∧ u = .bool false ∧ W = wb ∧ ((m = 0 ∧ n = .int .u64 0) ∨ (m = 1 ∧ ∃ p, dgF x.toNat = some p ∧ n = .int .u64 p) ∨ (m = 2 ∧ ∃ p q, dgF x.toNat = some p ∧ dgF y.toNat = some q ∧ n = .int .u64 (16 * p + q)))) (fun _ _ i _ => 2 - (RowKit.intOf i).toNat)
  case atStart => exact ⟨0, by decide, rfl, rfl, rfl, .inl ⟨rfl, rfl⟩⟩
  case round =>
    obtain ⟨m, hm, rfl, rfl, rfl, hr⟩ := hrel
    rcases hr with ⟨rfl, rfl⟩ | ⟨rfl, p, hp, rfl⟩ | ⟨rfl, p, q, hp, hq, rfl⟩
    · by_cases c1 : 48 ≤ x.toNat ∧ x.toNat ≤ 57
      · have HD : Hid (dgF x.toNat = some ((x.toNat : Int) - 48)) := by unfold Hid dgF; rw [if_pos (by omega)]
        have k1 : (48 : Int) ≤ (x.toNat : Int) := by omega
        have k2 : (x.toNat : Int) ≤ 57 := by omega
        have k3 : ((x.toNat : Int) == 95) = false := beq_false_of_ne (by omega)
        go_wp2_with fail
        exact ⟨⟨1, by decide, rfl, rfl, trivial, .inr (.inl ⟨rfl, _, HD.out, rfl⟩)⟩, by decide⟩
      by_cases c95 : x.toNat = 95
      · have e95 : (x.toNat : Int) = 95 := by omega
        have HD : Hid (dgF x.toNat = none) := by
          unfold Hid
          rw [e95, dgF, if_neg (by omega), show lowF 95 = 127 by decide, if_neg (by omega)]
        have HZ : Hid (∀ w, Calls Tryz.prog 111 #[.int .u8 95] w fun e w' => e = .returned (.int .u8 127) ∧ w' = w) := fun w => by
          have := HL.out 95 w
          rwa [show lowF 95 = 127 by decide] at this
        rw [e95] at h0
        clear HL
        go_wp2_with (go_at_call 111; refine (HZ.out _).mono ?_; rintro e w9 ⟨rfl, hw⟩; rw [hw]; clear hw w9)
        all_goals (go_ret2; exact ⟨.inr ⟨.inl HD.out, rfl⟩, HG.out⟩)
      · have k3 : ((x.toNat : Int) == 95) = false := beq_false_of_ne (by omega)
        have hlb := lowF_bd (x.toNat : Int)
        have k0 : ¬ ((48 : Int) ≤ (x.toNat : Int) ∧ (x.toNat : Int) ≤ 57) := by omega
        have HDX : Hid (dgF x.toNat = if 97 ≤ lowF (x.toNat : Int) ∧ lowF (x.toNat : Int) ≤ 102 then some (lowF (x.toNat : Int) - 87) else none) := by unfold Hid; rw [dgF, if_neg k0]
        have HZ : Hid (∀ w, Calls Tryz.prog 111 #[.int .u8 x.toNat] w fun e w' => e = .returned (.int .u8 (lowF x.toNat)) ∧ w' = w) := HL.out _
        generalize lowF (x.toNat : Int) = L at hlb HDX HZ
        obtain ⟨hL0, hL1⟩ := hlb
        clear HL
        by_cases d1 : 97 ≤ L
        · by_cases d2 : L ≤ 102
          · have HD : Hid (dgF x.toNat = some (L - 87)) := by rw [HDX.out, if_pos ⟨d1, d2⟩]; exact rfl
            have d3 : L ≤ 122 := by omega
            clear HDX
            go_wp2_with (go_at_call 111; refine (HZ.out _).mono ?_; rintro e w9 ⟨rfl, hw⟩; rw [hw]; clear hw w9)
            all_goals exact ⟨⟨1, by decide, rfl, rfl, trivial, .inr (.inl ⟨rfl, _, HD.out, by congr 1; omega⟩)⟩, by decide⟩
          · have HD : Hid (dgF x.toNat = none) := by rw [HDX.out, if_neg (by omega)]; exact rfl
            clear HDX
            by_cases d3 : L ≤ 122
            · go_wp2_with (go_at_call 111; refine (HZ.out _).mono ?_; rintro e w9 ⟨rfl, hw⟩; rw [hw]; clear hw w9)
              all_goals (go_ret2; exact ⟨.inr ⟨.inl HD.out, rfl⟩, HG.out⟩)
            · go_wp2_with (go_at_call 111; refine (HZ.out _).mono ?_; rintro e w9 ⟨rfl, hw⟩; rw [hw]; clear hw w9)
              all_goals (go_ret2; exact ⟨.inr ⟨.inl HD.out, rfl⟩, HG.out⟩)
        · have HD : Hid (dgF x.toNat = none) := by rw [HDX.out, if_neg (by omega)]; exact rfl
          clear HDX
          go_wp2_with (go_at_call 111; refine (HZ.out _).mono ?_; rintro e w9 ⟨rfl, hw⟩; rw [hw]; clear hw w9)
          all_goals (go_ret2; exact ⟨.inr ⟨.inl HD.out, rfl⟩, HG.out⟩)
    · have hpb := dgF_bd hp
      obtain ⟨hp0, hp1⟩ := hpb
      have HP : Hid _ := hp
      clear hp
      by_cases c1 : 48 ≤ y.toNat ∧ y.toNat ≤ 57
      · have HD : Hid (dgF y.toNat = some ((y.toNat : Int) - 48)) := by unfold Hid dgF; rw [if_pos (by omega)]
        have k1 : (48 : Int) ≤ (y.toNat : Int) := by omega
        have k2 : (y.toNat : Int) ≤ 57 := by omega
        have k3 : ((y.toNat : Int) == 95) = false := beq_false_of_ne (by omega)
        go_wp2_with fail
        exact ⟨⟨2, by decide, rfl, rfl, trivial, .inr (.inr ⟨rfl, _, _, HP.out, HD.out, by congr 1; omega⟩)⟩, by decide⟩
      by_cases c95 : y.toNat = 95
      · have e95 : (y.toNat : Int) = 95 := by omega
        have HD : Hid (dgF y.toNat = none) := by
          unfold Hid
          rw [e95, dgF, if_neg (by omega), show lowF 95 = 127 by decide, if_neg (by omega)]
        have HZ : Hid (∀ w, Calls Tryz.prog 111 #[.int .u8 95] w fun e w' => e = .returned (.int .u8 127) ∧ w' = w) := fun w => by
          have := HL.out 95 w
          rwa [show lowF 95 = 127 by decide] at this
        rw [e95] at h1
        clear HL
        go_wp2_with (go_at_call 111; refine (HZ.out _).mono ?_; rintro e w9 ⟨rfl, hw⟩; rw [hw]; clear hw w9)
        all_goals (go_ret2; exact ⟨.inr ⟨.inr HD.out, rfl⟩, HG.out⟩)
      · have k3 : ((y.toNat : Int) == 95) = false := beq_false_of_ne (by omega)
        have hlb := lowF_bd (y.toNat : Int)
        have k0 : ¬ ((48 : Int) ≤ (y.toNat : Int) ∧ (y.toNat : Int) ≤ 57) := by omega
        have HDX : Hid (dgF y.toNat = if 97 ≤ lowF (y.toNat : Int) ∧ lowF (y.toNat : Int) ≤ 102 then some (lowF (y.toNat : Int) - 87) else none) := by unfold Hid; rw [dgF, if_neg k0]
        have HZ : Hid (∀ w, Calls Tryz.prog 111 #[.int .u8 y.toNat] w fun e w' => e = .returned (.int .u8 (lowF y.toNat)) ∧ w' = w) := HL.out _
        generalize lowF (y.toNat : Int) = L at hlb HDX HZ
        obtain ⟨hL0, hL1⟩ := hlb
        clear HL
        by_cases d1 : 97 ≤ L
        · by_cases d2 : L ≤ 102
          · have HD : Hid (dgF y.toNat = some (L - 87)) := by rw [HDX.out, if_pos ⟨d1, d2⟩]; exact rfl
            have d3 : L ≤ 122 := by omega
            clear HDX
            go_wp2_with (go_at_call 111; refine (HZ.out _).mono ?_; rintro e w9 ⟨rfl, hw⟩; rw [hw]; clear hw w9)
            all_goals exact ⟨⟨2, by decide, rfl, rfl, trivial, .inr (.inr ⟨rfl, _, _, HP.out, HD.out, by congr 1; omega⟩)⟩, by decide⟩
          · have HD : Hid (dgF y.toNat = none) := by rw [HDX.out, if_neg (by omega)]; exact rfl
            clear HDX
            by_cases d3 : L ≤ 122
            · go_wp2_with (go_at_call 111; refine (HZ.out _).mono ?_; rintro e w9 ⟨rfl, hw⟩; rw [hw]; clear hw w9)
              all_goals (go_ret2; exact ⟨.inr ⟨.inr HD.out, rfl⟩, HG.out⟩)
            · go_wp2_with (go_at_call 111; refine (HZ.out _).mono ?_; rintro e w9 ⟨rfl, hw⟩; rw [hw]; clear hw w9)
              all_goals (go_ret2; exact ⟨.inr ⟨.inr HD.out, rfl⟩, HG.out⟩)
        · have HD : Hid (dgF y.toNat = none) := by rw [HDX.out, if_neg (by omega)]; exact rfl
          clear HDX
          go_wp2_with (go_at_call 111; refine (HZ.out _).mono ?_; rintro e w9 ⟨rfl, hw⟩; rw [hw]; clear hw w9)
          all_goals (go_ret2; exact ⟨.inr ⟨.inr HD.out, rfl⟩, HG.out⟩)
    · have HP : Hid _ := hp
      have HQ : Hid _ := hq
      clear hp hq
      go_wp2
      go_ret2
      exact ⟨.inl ⟨p, q, HP.out, HQ.out, rfl⟩, HG.out⟩
end
open Go.RowKit Go.Lib Go.Shelf

set_option maxRecDepth 100000 in
set_option maxHeartbeats 4000000 in
theorem pU_any (x y : UInt8) (w : World) (hE : Env w) : Calls Tryz.prog 58 #[.string (strU [x, y]), .int .i64 16, .int .i64 8] w fun e w' => ∃ (u : Int) (ev : Value), e = .returned (.tuple #[.int .u64 u, ev]) ∧ (0 ≤ u ∧ u < 256) ∧ (∀ p q, dgF x.toNat = some p → dgF y.toNat = some q → u = 16 * p + q) ∧ G w w' := by
  have HP : Hid _ := pu_any x y
  have HE : Hid _ := hE
  clear hE
  go_enter Tryz.func58, Tryz.ntmps58
  go_wp2_with fail
  refine (HP.out w).mono ?_
  rintro e w1 ⟨hc, hg⟩
  rcases hc with ⟨p, q, hp, hq, rfl⟩ | ⟨hn, rfl⟩
  · have hb1 := dgF_bd hp
    have hb2 := dgF_bd hq
    have HA : Hid (∀ p' q', dgF x.toNat = some p' → dgF y.toNat = some q' → 16 * p + q = 16 * p' + q') := fun p' q' h h' => by
      rw [hp] at h; rw [hq] at h'; cases h; cases h'; rfl
    have HB : Hid (0 ≤ 16 * p + q ∧ 16 * p + q < 256) := by unfold Hid; omega
    have HG : Hid _ := hg
    clear hp hq hb1 hb2 hg
    go_wp2
    go_ret2
    exact ⟨_, _, rfl, HB.out, HA.out, HG.out⟩
  · obtain ⟨tp, pp, hv⟩ := (HE.out.G hg).s
    have hcell : w1.cell? ⟨7, 0, none⟩ = some (.iface tp pp) := by
      have hgn : Tryz.prog.globalNamed "strconv.ErrSyntax" = some 7 := by kernel_rfl
      have := World.var?_cell hgn hv 0
      simpa using this
    have HT : Hid (Calls Tryz.prog 93 #[.string ⟨#[80, 97, 114, 115, 101, 85, 105, 110, 116]⟩, .string (strU [x, y]), .int .i64 16, .int .i64 8, .iface 160 (.int .i64 2)] w1 fun e w' => ∃ ev, e = .returned ev ∧ G w1 w') := by
      refine (Any.strconv_toError_syntax Tryz.laysToError ⟨#[80, 97, 114, 115, 101, 85, 105, 110, 116]⟩ (strU [x, y]) 16 8 (.iface tp pp) w1 (by show 2 ≤ _; decide) hcell (.inr ⟨tp, pp, rfl⟩)).mono ?_
      rintro e w' ⟨N, rfl, _, _, hb⟩
      exact ⟨_, rfl, hb⟩
    have HA : Hid (∀ p' q', dgF x.toNat = some p' → dgF y.toNat = some q' → (0 : Int) = 16 * p' + q') := fun p' q' h h' => by
      rcases hn with hn | hn
      · rw [hn] at h; cases h
      · rw [hn] at h'; cases h'
    have HG : Hid (G w w1) := hg
    clear hn hg hcell hv
    go_wp2_with fail
    refine HT.out.mono ?_
    rintro e w2 ⟨ev, rfl, hg2⟩
    have HG2 : Hid (G w w2) := HG.out.trans hg2
    clear hg2
    go_wp2
    go_ret2
    exact ⟨_, _, rfl, by decide, HA.out, HG2.out⟩
theorem bat (s : ByteArray) (i : Nat) (c : UInt8) (h : s.data.toList[i]? = some c) (hl : i < s.size) : s[i]'hl = c := by
  have := (List.getElem?_eq_some_iff.1 h).2
  rw [Array.getElem_toList] at this
  exact this
def ltr : Nat → UInt8 | 0 => 92 | 1 => 39 | 2 => 110 | 3 => 116 | _ => 114
set_option maxRecDepth 100000 in
set_option maxHeartbeats 4000000 in
theorem fb_any (s : ByteArray) (hs : s.size ≤ 140737488355328) (hne : 0 < s.size) (w : World) (hE : Env w) : Calls Tryz.prog 144 #[.string s] w fun e w' => ∃ (c : UInt8) (n : Nat), e = .returned (.tuple #[.int .u8 c.toNat, .int .i64 n]) ∧ FB s.data.toList c n ∧ G w w' := by
  have hlen : s.data.toList.length = s.size := by rw [Array.length_toList]; rfl
  obtain ⟨c0, r, hl⟩ : ∃ c r, s.data.toList = c :: r := by
    cases h : s.data.toList with
    | nil => rw [h] at hlen; simp at hlen; omega
    | cons c r => exact ⟨c, r, rfl⟩
  have hi0 : ∀ h : 0 < s.size, s[0]'h = c0 := fun h => bat s 0 c0 (by rw [hl]; rfl) h
  by_cases hc0 : c0 = 92
  · subst hc0
    cases r with
    | nil =>
      have hsz : s.size = 1 := by rw [← hlen, hl]; rfl
      have HS : Hid _ := hl
      clear hl hlen hE
      go_enter Tryz.func144, Tryz.ntmps144
      go_wp2
      go_ret2
      exact ⟨92, 1, rfl, by rw [HS.out]; exact fb_short, G.refl _⟩
    | cons l r' =>
      have hsz : 2 ≤ s.size := by rw [← hlen, hl]; simp
      have hI2 : ¬ (s.size : Int) < 2 := by omega
      have hi1 : ∀ h : 1 < s.size, s[1]'h = l := fun h => bat s 1 l (by rw [hl]; rfl) h
      have hcc := esc_cells hE
      have HE : Hid _ := hE
      have HS : Hid (s.data.toList = 92 :: l :: r') := hl
      have HLn : Hid _ := hlen
      clear hl hlen hE
      go_enter Tryz.func144, Tryz.ntmps144
      go_wp2
      go_loopw [19] (fun i W => ∃ k : Nat, k ≤ 5 ∧ i = .int .i64 k ∧ G w W ∧ ∀ j, j < k → l ≠ ltr j) (fun i _ => 5 - (RowKit.intOf i).toNat)
      case atStart => exact ⟨0, by decide, rfl, G.refl _, fun j hj => absurd hj (Nat.not_lt_zero j)⟩
      case round =>
        obtain ⟨k, hk, rfl, hG, hn⟩ := hrel
        have HG : Hid (G w wr) := hG
        have HN : Hid _ := hn
        clear hG hn
        have hk' : k = 0 ∨ k = 1 ∨ k = 2 ∨ k = 3 ∨ k = 4 ∨ k = 5 := by omega
        rcases hk' with rfl | rfl | rfl | rfl | rfl | rfl
        · have hix := ix_0
          by_cases hr : l = 92
          · subst hr
            go_wp2
            go_quiet (fail)
            go_wp2
            go_ret2
            exact ⟨92, 2, rfl, by rw [HS.out]; exact fb_letter 92 92 (.inl ⟨rfl, rfl⟩) r', by repeat (first | exact HG.out | refine G.drewM ?_ _ | refine G.drew ?_ | refine G.alloc ?_ _)⟩
          · have hrb : ((l.toNat : Int) == 92) = false := beq_false_of_ne (fun e => hr (UInt8.toNat_inj.1 (by show l.toNat = 92; omega)))
            go_wp2
            go_quiet (fail)
            go_wp2
            exact ⟨⟨1, by decide, rfl, by repeat (first | exact HG.out | refine G.drewM ?_ _ | refine G.drew ?_ | refine G.alloc ?_ _), fun j hj => by
              rcases Nat.lt_succ_iff_lt_or_eq.1 hj with h | h
              · exact HN.out j h
              · subst h; exact hr⟩, by decide⟩
        · have hix := ix_1
          by_cases hr : l = 39
          · subst hr
            go_wp2
            go_quiet (fail)
            go_wp2
            go_ret2
            exact ⟨39, 2, rfl, by rw [HS.out]; exact fb_letter 39 39 (.inr (.inl ⟨rfl, rfl⟩)) r', by repeat (first | exact HG.out | refine G.drewM ?_ _ | refine G.drew ?_ | refine G.alloc ?_ _)⟩
          · have hrb : ((l.toNat : Int) == 39) = false := beq_false_of_ne (fun e => hr (UInt8.toNat_inj.1 (by show l.toNat = 39; omega)))
            go_wp2
            go_quiet (fail)
            go_wp2
            exact ⟨⟨2, by decide, rfl, by repeat (first | exact HG.out | refine G.drewM ?_ _ | refine G.drew ?_ | refine G.alloc ?_ _), fun j hj => by
              rcases Nat.lt_succ_iff_lt_or_eq.1 hj with h | h
              · exact HN.out j h
              · subst h; exact hr⟩, by decide⟩
        · have hix := ix_2
          by_cases hr : l = 110
          · subst hr
            go_wp2
            go_quiet (fail)
            go_wp2
            go_ret2
            exact ⟨10, 2, rfl, by rw [HS.out]; exact fb_letter 10 110 (.inr (.inr (.inl ⟨rfl, rfl⟩))) r', by repeat (first | exact HG.out | refine G.drewM ?_ _ | refine G.drew ?_ | refine G.alloc ?_ _)⟩
          · have hrb : ((l.toNat : Int) == 110) = false := beq_false_of_ne (fun e => hr (UInt8.toNat_inj.1 (by show l.toNat = 110; omega)))
            go_wp2
            go_quiet (fail)
            go_wp2
            exact ⟨⟨3, by decide, rfl, by repeat (first | exact HG.out | refine G.drewM ?_ _ | refine G.drew ?_ | refine G.alloc ?_ _), fun j hj => by
              rcases Nat.lt_succ_iff_lt_or_eq.1 hj with h | h
              · exact HN.out j h
              · subst h; exact hr⟩, by decide⟩
        · have hix := ix_3
          by_cases hr : l = 116
          · subst hr
            go_wp2
            go_quiet (fail)
            go_wp2
            go_ret2
            exact ⟨9, 2, rfl, by rw [HS.out]; exact fb_letter 9 116 (.inr (.inr (.inr (.inl ⟨rfl, rfl⟩)))) r', by repeat (first | exact HG.out | refine G.drewM ?_ _ | refine G.drew ?_ | refine G.alloc ?_ _)⟩
          · have hrb : ((l.toNat : Int) == 116) = false := beq_false_of_ne (fun e => hr (UInt8.toNat_inj.1 (by show l.toNat = 116; omega)))
            go_wp2
            go_quiet (fail)
            go_wp2
            exact ⟨⟨4, by decide, rfl, by repeat (first | exact HG.out | refine G.drewM ?_ _ | refine G.drew ?_ | refine G.alloc ?_ _), fun j hj => by
              rcases Nat.lt_succ_iff_lt_or_eq.1 hj with h | h
              · exact HN.out j h
              · subst h; exact hr⟩, by decide⟩
        · have hix := ix_4
          by_cases hr : l = 114
          · subst hr
            go_wp2
            go_quiet (fail)
            go_wp2
            go_ret2
            exact ⟨13, 2, rfl, by rw [HS.out]; exact fb_letter 13 114 (.inr (.inr (.inr (.inr ⟨rfl, rfl⟩)))) r', by repeat (first | exact HG.out | refine G.drewM ?_ _ | refine G.drew ?_ | refine G.alloc ?_ _)⟩
          · have hrb : ((l.toNat : Int) == 114) = false := beq_false_of_ne (fun e => hr (UInt8.toNat_inj.1 (by show l.toNat = 114; omega)))
            go_wp2
            go_quiet (fail)
            go_wp2
            exact ⟨⟨5, by decide, rfl, by repeat (first | exact HG.out | refine G.drewM ?_ _ | refine G.drew ?_ | refine G.alloc ?_ _), fun j hj => by
              rcases Nat.lt_succ_iff_lt_or_eq.1 hj with h | h
              · exact HN.out j h
              · subst h; exact hr⟩, by decide⟩
        · have HLE : Hid (l ≠ 92 ∧ l ≠ 39 ∧ l ≠ 110 ∧ l ≠ 116 ∧ l ≠ 114) := ⟨HN.out 0 (by decide), HN.out 1 (by decide), HN.out 2 (by decide), HN.out 3 (by decide), HN.out 4 (by decide)⟩
          clear HN
          by_cases h120 : l = 120
          · subst h120
            by_cases h4 : s.size < 4
            · have hI4 : (s.size : Int) < 4 := by omega
              have HR : Hid (r'.length < 2) := by
                have := HLn.out
                rw [HS.out] at this
                simp at this
                unfold Hid; omega
              go_wp2
              go_ret2
              exact ⟨92, 1, rfl, by rw [HS.out]; exact fb_none 120 r' HLE.out (.inr HR.out), HG.out⟩
            · have hI4 : ¬ (s.size : Int) < 4 := by omega
              obtain ⟨x, y, r2, rfl⟩ : ∃ x y r2, r' = x :: y :: r2 := by
                have := HLn.out
                rw [HS.out] at this
                match r', this with
                | [], h => simp at h; omega
                | [a], h => simp at h; omega
                | a :: b :: t, _ => exact ⟨a, b, t, rfl⟩
              have hex : s.extract 2 4 = strU [x, y] := by
                apply ByteArray.ext
                rw [ByteArray.data_extract]
                apply Array.ext'
                rw [Array.toList_extract, HS.out]
                rfl
              have HPU : Hid _ := pU_any x y wr (HE.out.G HG.out)
              go_wp2_with fail
              refine Calls.mono HPU.out ?_
              rintro e w2 ⟨u, ev, rfl, ⟨hu0, hu1⟩, hval, hg⟩
              have HGX : Hid (G w w2) := G.trans HG.out hg
              have HFB : Hid (FB (92 :: 120 :: x :: y :: r2) (UInt8.ofNat u.toNat) 4) := fb_hex x y r2 _ (fun p q hp hq e1 e2 => by
                have := hval p q (by rw [e1]; exact dgF_hx p hp) (by rw [e2]; exact dgF_hx q hq)
                congr 1; omega)
              have hun : ((UInt8.ofNat u.toNat).toNat : Int) = u := by rw [UInt8.toNat_ofNat']; omega
              have HUN : Hid _ := hun
              clear hval hg hun
              go_wp2
              go_ret2
              refine ⟨UInt8.ofNat u.toNat, 4, ?_, by rw [HS.out]; exact HFB.out, HGX.out⟩
              rw [HUN.out]; rfl
          · have k120 : ((l.toNat : Int) == 120) = false := beq_false_of_ne (fun e => h120 (UInt8.toNat_inj.1 (by show l.toNat = 120; omega)))
            have k2 : ¬ (l.toNat : Int) = 120 := fun e => h120 (UInt8.toNat_inj.1 (by show l.toNat = 120; omega))
            have k3 : ¬ l.toNat = 120 := by omega
            have k4 : ((l.toNat : Int) != 120) = true := by simp [bne, k120]
            go_wp2
            go_ret2
            exact ⟨92, 1, rfl, by rw [HS.out]; exact fb_none l r' HLE.out (.inl h120), HG.out⟩
  · have k1 : ((c0.toNat : Int) == 92) = false := beq_false_of_ne (fun e => hc0 (UInt8.toNat_inj.1 (by show c0.toNat = 92; omega)))
    have k2 : ¬ (c0.toNat : Int) = 92 := fun e => hc0 (UInt8.toNat_inj.1 (by show c0.toNat = 92; omega))
    have k3 : ¬ c0.toNat = 92 := by omega
    have k4 : ((c0.toNat : Int) != 92) = true := by simp [bne, k1]
    have HS : Hid _ := hl
    clear hl hlen hE
    go_enter Tryz.func144, Tryz.ntmps144
    go_wp2
    go_ret2
    exact ⟨c0, 1, rfl, by rw [HS.out]; exact fb_plain hc0, G.refl _⟩
end Go.Proofs.YthpflfkgbapbnaaGreatDoor
