/- strconv.ParseUint of two letters, at base 16. -/
import Derived.Test.YthgpegldlcfolaaGreatDoorBk5
import Derived.OpenShut
namespace Go.Proofs.YthgpegldlcfolaaGreatDoor
open Go.RowKit Go.Lib Go.Shelf

def lowF (c : Int) : Int := bits BinOp.or IntKind.u8 c 32
theorem lowF_bd (c : Int) : 0 ≤ lowF c ∧ lowF c ≤ 255 := bounds_u8 (wf_bits BinOp.or IntKind.u8 c 32)
theorem lowF_hex (c : Int) (h1 : 97 ≤ c) (h2 : c ≤ 102) : lowF c = c := by
  have : c = 97 ∨ c = 98 ∨ c = 99 ∨ c = 100 ∨ c = 101 ∨ c = 102 := by omega
  rcases this with rfl | rfl | rfl | rfl | rfl | rfl <;> decide
theorem lower_any (c : Int) (w : World) : Calls Tryz.prog 41 #[.int .u8 c] w fun e w' => e = .returned (.int .u8 (lowF c)) ∧ w' = w := by
  go_enter Tryz.func41, Tryz.ntmps41
  go_wp2
  go_ret
  exact ⟨rfl, rfl⟩
/-- The digit that a letter is, at base 16. -/
noncomputable def dgF (c : Int) : Option Int := if 48 ≤ c ∧ c ≤ 57 then some (c - 48) else if 97 ≤ lowF c ∧ lowF c ≤ 102 then some (lowF c - 87) else none
theorem hx_nat : ∀ d, d < 16 → (hx d).toNat = if d < 10 then 48 + d else 87 + d := by decide
theorem dgF_hx (d : Nat) (h : d < 16) : dgF ((hx d).toNat : Int) = some (d : Int) := by
  rw [hx_nat d h]
  unfold dgF
  by_cases c : d < 10
  · rw [if_pos c, if_pos (by omega)]; congr 1; omega
  · rw [if_neg c, if_neg (by omega), lowF_hex _ (by omega) (by omega), if_pos (by omega)]; congr 1; omega
theorem dgF_bd {c d : Int} (h : dgF c = some d) : 0 ≤ d ∧ d < 16 := by
  unfold dgF at h
  by_cases c1 : 48 ≤ c ∧ c ≤ 57
  · rw [if_pos c1] at h; cases h; omega
  · rw [if_neg c1] at h
    by_cases c2 : 97 ≤ lowF c ∧ lowF c ≤ 102
    · rw [if_pos c2] at h; cases h; omega
    · rw [if_neg c2] at h; cases h
set_option maxRecDepth 100000 in
set_option maxHeartbeats 4000000 in
theorem pu_any (x y : UInt8) (w : World) : Calls Tryz.prog 33 #[.string (strU [x, y]), .int .i64 16, .int .i64 8] w fun e w' =>
    ((∃ p q : Int, dgF x.toNat = some p ∧ dgF y.toNat = some q ∧ e = .returned (.tuple #[.int .u64 (16 * p + q), .nilIface])) ∨ ((dgF x.toNat = none ∨ dgF y.toNat = none) ∧ e = .returned (.tuple #[.int .u64 0, .iface 57 (.int .i64 2)]))) ∧ G w w' := by
  have hem : (strU [x, y]).toList.isEmpty = false := by rw [ByteArray.toList_eq]; rfl
  have hsz : (strU [x, y]).size = 2 := rfl
  have hcv : (convert 9 60 (.string (strU [x, y]))).run Tryz.prog w = .ok (.slice (some ⟨w.heap.size, 0, none⟩) 2 (grownCap w 2 0 5)) (bytesWorld w 5 (strU [x, y])) := Lib.run_convert_string_bytes w 9 60 5 (strU [x, y]) Tryz.underlying9 Tryz.underlying60 Tryz.underlying5
  have HG : Hid (G w (bytesWorld w 5 (strU [x, y]))) := ⟨rfl, rfl, rfl, by rw [bytesWorld_size]; omega, fun j hj => bytesWorld_at_old w 5 _ j hj⟩
  have h0 : (bytesWorld w 5 (strU [x, y])).cell? ⟨w.heap.size, 0, none⟩ = some (.int .u8 x.toNat) := bytesWorld_cell w 5 (strU [x, y]) 0 (by show 0 < 2; decide)
  have h1 : (bytesWorld w 5 (strU [x, y])).cell? ⟨w.heap.size, 1, none⟩ = some (.int .u8 y.toNat) := bytesWorld_cell w 5 (strU [x, y]) 1 (by show 1 < 2; decide)
  have hxl := x.toNat_lt
  have hyl := y.toNat_lt
  generalize hwb : bytesWorld w 5 (strU [x, y]) = wb at hcv HG h0 h1
  clear hwb
  have HL : Hid (∀ c w, Calls Tryz.prog 41 #[.int .u8 c] w fun e w' => e = .returned (.int .u8 (lowF c)) ∧ w' = w) := lower_any
  go_enter Tryz.func33, Tryz.ntmps33
  go_wp2_with fail
  go_loopw [12, 13, 101] (fun u n i W => ∃ m : Nat, m ≤ 2 ∧ i = .int .i64 m ∧ u = .bool false ∧ W = wb ∧ ((m = 0 ∧ n = .int .u64 0) ∨ (m = 1 ∧ ∃ p, dgF x.toNat = some p ∧ n = .int .u64 p) ∨ (m = 2 ∧ ∃ p q, dgF x.toNat = some p ∧ dgF y.toNat = some q ∧ n = .int .u64 (16 * p + q)))) (fun _ _ i _ => 2 - (RowKit.intOf i).toNat)
  case atStart => exact ⟨0, by decide, rfl, rfl, rfl, .inl ⟨rfl, rfl⟩⟩
  case round =>
    obtain ⟨m, hm, rfl, rfl, rfl, hr⟩ := hrel
    rcases hr with ⟨rfl, rfl⟩ | ⟨rfl, p, hp, rfl⟩ | ⟨rfl, p, q, hp, hq, rfl⟩
    · by_cases c1 : 48 ≤ x.toNat ∧ x.toNat ≤ 57
      · have HD : Hid (dgF x.toNat = some ((x.toNat : Int) - 48)) := by unfold Hid dgF; rw [if_pos (by omega)]
        have k1 : (48 : Int) ≤ (x.toNat : Int) := by omega
        have k2 : (x.toNat : Int) ≤ 57 := by omega
        have k3 : ((x.toNat : Int) == 95) = false := beq_false_of_ne (by omega)
        go_wp2_with fail
        exact ⟨⟨1, by decide, rfl, rfl, trivial, .inr (.inl ⟨rfl, _, HD.out, rfl⟩)⟩, by decide⟩
      by_cases c95 : x.toNat = 95
      · have e95 : (x.toNat : Int) = 95 := by omega
        have HD : Hid (dgF x.toNat = none) := by
          unfold Hid
          rw [e95, dgF, if_neg (by omega), show lowF 95 = 127 by decide, if_neg (by omega)]
        have HZ : Hid (∀ w, Calls Tryz.prog 41 #[.int .u8 95] w fun e w' => e = .returned (.int .u8 127) ∧ w' = w) := fun w => by
          have := HL.out 95 w
          rwa [show lowF 95 = 127 by decide] at this
        rw [e95] at h0
        clear HL
        go_wp2_with (go_at_call 41; refine (HZ.out _).mono ?_; rintro e w9 ⟨rfl, hw⟩; rw [hw]; clear hw w9)
        all_goals (go_ret2; exact ⟨.inr ⟨.inl HD.out, rfl⟩, HG.out⟩)
      · have k3 : ((x.toNat : Int) == 95) = false := beq_false_of_ne (by omega)
        have hlb := lowF_bd (x.toNat : Int)
        have k0 : ¬ ((48 : Int) ≤ (x.toNat : Int) ∧ (x.toNat : Int) ≤ 57) := by omega
        have HDX : Hid (dgF x.toNat = if 97 ≤ lowF (x.toNat : Int) ∧ lowF (x.toNat : Int) ≤ 102 then some (lowF (x.toNat : Int) - 87) else none) := by unfold Hid; rw [dgF, if_neg k0]
        have HZ : Hid (∀ w, Calls Tryz.prog 41 #[.int .u8 x.toNat] w fun e w' => e = .returned (.int .u8 (lowF x.toNat)) ∧ w' = w) := HL.out _
        generalize lowF (x.toNat : Int) = L at hlb HDX HZ
        obtain ⟨hL0, hL1⟩ := hlb
        clear HL
        by_cases d1 : 97 ≤ L
        · by_cases d2 : L ≤ 102
          · have HD : Hid (dgF x.toNat = some (L - 87)) := by rw [HDX.out, if_pos ⟨d1, d2⟩]; exact rfl
            have d3 : L ≤ 122 := by omega
            clear HDX
            go_wp2_with (go_at_call 41; refine (HZ.out _).mono ?_; rintro e w9 ⟨rfl, hw⟩; rw [hw]; clear hw w9)
            all_goals exact ⟨⟨1, by decide, rfl, rfl, trivial, .inr (.inl ⟨rfl, _, HD.out, by congr 1; omega⟩)⟩, by decide⟩
          · have HD : Hid (dgF x.toNat = none) := by rw [HDX.out, if_neg (by omega)]; exact rfl
            clear HDX
            by_cases d3 : L ≤ 122
            · go_wp2_with (go_at_call 41; refine (HZ.out _).mono ?_; rintro e w9 ⟨rfl, hw⟩; rw [hw]; clear hw w9)
              all_goals (go_ret2; exact ⟨.inr ⟨.inl HD.out, rfl⟩, HG.out⟩)
            · go_wp2_with (go_at_call 41; refine (HZ.out _).mono ?_; rintro e w9 ⟨rfl, hw⟩; rw [hw]; clear hw w9)
              all_goals (go_ret2; exact ⟨.inr ⟨.inl HD.out, rfl⟩, HG.out⟩)
        · have HD : Hid (dgF x.toNat = none) := by rw [HDX.out, if_neg (by omega)]; exact rfl
          clear HDX
          go_wp2_with (go_at_call 41; refine (HZ.out _).mono ?_; rintro e w9 ⟨rfl, hw⟩; rw [hw]; clear hw w9)
          all_goals (go_ret2; exact ⟨.inr ⟨.inl HD.out, rfl⟩, HG.out⟩)
    · have hpb := dgF_bd hp
      obtain ⟨hp0, hp1⟩ := hpb
      have HP : Hid _ := hp
      clear hp
      by_cases c1 : 48 ≤ y.toNat ∧ y.toNat ≤ 57
      · have HD : Hid (dgF y.toNat = some ((y.toNat : Int) - 48)) := by unfold Hid dgF; rw [if_pos (by omega)]
        have k1 : (48 : Int) ≤ (y.toNat : Int) := by omega
        have k2 : (y.toNat : Int) ≤ 57 := by omega
        have k3 : ((y.toNat : Int) == 95) = false := beq_false_of_ne (by omega)
        go_wp2_with fail
        exact ⟨⟨2, by decide, rfl, rfl, trivial, .inr (.inr ⟨rfl, _, _, HP.out, HD.out, by congr 1; omega⟩)⟩, by decide⟩
      by_cases c95 : y.toNat = 95
      · have e95 : (y.toNat : Int) = 95 := by omega
        have HD : Hid (dgF y.toNat = none) := by
          unfold Hid
          rw [e95, dgF, if_neg (by omega), show lowF 95 = 127 by decide, if_neg (by omega)]
        have HZ : Hid (∀ w, Calls Tryz.prog 41 #[.int .u8 95] w fun e w' => e = .returned (.int .u8 127) ∧ w' = w) := fun w => by
          have := HL.out 95 w
          rwa [show lowF 95 = 127 by decide] at this
        rw [e95] at h1
        clear HL
        go_wp2_with (go_at_call 41; refine (HZ.out _).mono ?_; rintro e w9 ⟨rfl, hw⟩; rw [hw]; clear hw w9)
        all_goals (go_ret2; exact ⟨.inr ⟨.inr HD.out, rfl⟩, HG.out⟩)
      · have k3 : ((y.toNat : Int) == 95) = false := beq_false_of_ne (by omega)
        have hlb := lowF_bd (y.toNat : Int)
        have k0 : ¬ ((48 : Int) ≤ (y.toNat : Int) ∧ (y.toNat : Int) ≤ 57) := by omega
        have HDX : Hid (dgF y.toNat = if 97 ≤ lowF (y.toNat : Int) ∧ lowF (y.toNat : Int) ≤ 102 then some (lowF (y.toNat : Int) - 87) else none) := by unfold Hid; rw [dgF, if_neg k0]
        have HZ : Hid (∀ w, Calls Tryz.prog 41 #[.int .u8 y.toNat] w fun e w' => e = .returned (.int .u8 (lowF y.toNat)) ∧ w' = w) := HL.out _
        generalize lowF (y.toNat : Int) = L at hlb HDX HZ
        obtain ⟨hL0, hL1⟩ := hlb
        clear HL
        by_cases d1 : 97 ≤ L
        · by_cases d2 : L ≤ 102
          · have HD : Hid (dgF y.toNat = some (L - 87)) := by rw [HDX.out, if_pos ⟨d1, d2⟩]; exact rfl
            have d3 : L ≤ 122 := by omega
            clear HDX
            go_wp2_with (go_at_call 41; refine (HZ.out _).mono ?_; rintro e w9 ⟨rfl, hw⟩; rw [hw]; clear hw w9)
            all_goals exact ⟨⟨2, by decide, rfl, rfl, trivial, .inr (.inr ⟨rfl, _, _, HP.out, HD.out, by congr 1; omega⟩)⟩, by decide⟩
          · have HD : Hid (dgF y.toNat = none) := by rw [HDX.out, if_neg (by omega)]; exact rfl
            clear HDX
            by_cases d3 : L ≤ 122
            · go_wp2_with (go_at_call 41; refine (HZ.out _).mono ?_; rintro e w9 ⟨rfl, hw⟩; rw [hw]; clear hw w9)
              all_goals (go_ret2; exact ⟨.inr ⟨.inr HD.out, rfl⟩, HG.out⟩)
            · go_wp2_with (go_at_call 41; refine (HZ.out _).mono ?_; rintro e w9 ⟨rfl, hw⟩; rw [hw]; clear hw w9)
              all_goals (go_ret2; exact ⟨.inr ⟨.inr HD.out, rfl⟩, HG.out⟩)
        · have HD : Hid (dgF y.toNat = none) := by rw [HDX.out, if_neg (by omega)]; exact rfl
          clear HDX
          go_wp2_with (go_at_call 41; refine (HZ.out _).mono ?_; rintro e w9 ⟨rfl, hw⟩; rw [hw]; clear hw w9)
          all_goals (go_ret2; exact ⟨.inr ⟨.inr HD.out, rfl⟩, HG.out⟩)
    · have HP : Hid _ := hp
      have HQ : Hid _ := hq
      clear hp hq
      go_wp2
      go_ret2
      exact ⟨.inl ⟨p, q, HP.out, HQ.out, rfl⟩, HG.out⟩
end Go.Proofs.YthgpegldlcfolaaGreatDoor
