/- DiskFuse. -/
import Derived.Test.YtkbeldnndhhioaaFu2
namespace Go.Proofs.Ytkbeldnndhhioaa
open Go.RowKit

theorem fld (a b c : Nat) (o : Bool) (w : World) : (Instr.field 35 (.agg #[I a, I b, I c, .bool o]) 3).run Try.prog w = .ok (.bool o) w := by kernel_rfl
/-- Numbers in memory. -/
def Nums (w : World) (b off L : Nat) (X : Nat → Int) : Prop := ∀ i, i < L → w.cell? ⟨b, off + i, none⟩ = some (I (X i))
theorem Nums.G {w w' : World} {b off L : Nat} {X : Nat → Int} (h : Nums w b off L X) (g : Go.Proofs.Ytkbeldnndhhioaa.G w w') : Nums w' b off L X := fun i hi => (g.cell (World.block_lt_of_cell? _ _ (h i hi))).trans (h i hi)
set_option maxRecDepth 100000 in
set_option maxHeartbeats 8000000 in
theorem fuse_no (n after : Int) (v : Value) (hn : n < 1 ∨ 4096 < n) (w : World) : Calls Try.prog 3 #[.int .i64 n, .int .i64 after, v] w fun e w' => e = .returned (.bool true) ∧ G w w' := by
  have HS := hide (sizes_no n hn w)
  go_enter Try.func3, Try.ntmps3
  go_wp2_with fail
  refine HS.out.mono ?_
  rintro e' w1 ⟨rfl, hg⟩
  go_wp2
  go_ret
  exact ⟨rfl, hg⟩
set_option maxRecDepth 100000 in
set_option maxHeartbeats 8000000 in
theorem fuse_neg (n : Nat) (h1 : 1 ≤ n) (h2 : n ≤ 4096) (after : Int) (ha : after < 0) (v : Value) (w : World) : Calls Try.prog 3 #[.int .i64 n, .int .i64 after, v] w fun e w' => e = .returned (.bool true) ∧ G w w' := by
  have HS := hide (sizes_yes n h1 h2 w)
  go_enter Try.func3, Try.ntmps3
  go_wp2_with fail
  refine HS.out.mono ?_
  rintro e' w1 ⟨q, rfl, hg, hp⟩
  have HG := hide hg
  have HP := hide hp
  clear hg hp HS
  go_wp2_with fail
  refine (cut_neg after ha HP.out).mono ?_
  rintro e' w2 ⟨rfl, hc⟩
  go_wp2
  go_ret
  exact ⟨rfl, HG.out.trans2' hc (fun k hk => hk.1)⟩
set_option maxRecDepth 100000 in
set_option maxHeartbeats 8000000 in
theorem fuse_some (n : Nat) (h1 : 1 ≤ n) (h2 : n ≤ 4096) (after : Nat) (ha : after ≤ 9223372036854775807) (v : Value) (L : Nat) (hL : L ≤ 1048576) (X : Nat → Int) (hX : ∀ i, i < L → -9223372036854775808 ≤ X i ∧ X i ≤ 9223372036854775807) (w : World) (hv : ∃ a cap, v = .slice a L cap ∧ (L = 0 ∨ ∃ b off, a = some ⟨b, off, none⟩ ∧ Nums w b off L X)) : Calls Try.prog 3 #[.int .i64 n, .int .i64 after, v] w fun e w' => e = .returned (.bool true) ∧ G w w' := by
  have HS := hide (sizes_yes n h1 h2 w)
  obtain ⟨va, vc, rfl, hv⟩ := hv
  have HV := hide hv
  have HX := hide hX
  clear hv hX
  have ha0 : ¬ (after : Int) < 0 := by omega
  go_enter Try.func3, Try.ntmps3
  go_wp2_with fail
  refine HS.out.mono ?_
  rintro e' w1 ⟨q, rfl, hg, hp⟩
  have HG := hide hg
  have HP := hide hp
  clear hg hp HS
  go_wp2_with fail
  refine (fs_first after ha HG.out HP.out).mono ?_
  rintro e' w2 ⟨rfl, hf⟩
  have HF0 := hide hf
  clear hf HG HP
  go_wp2_with fail
  go_loopw [10, 11, 12, 13, 14, 15, 16, 17, 18, 19, 20] (fun d tu _ _ _ _ _ _ _ _ _ W => ∃ t dn : Nat, ∃ o : Bool, t ≤ 2 ∧ dn ≤ t * L ∧ tu = .int .i64 t ∧ d = .int .i64 dn ∧ FS w W q n t after dn (t * L) o) (fun _ tu _ _ _ _ _ _ _ _ _ _ => 2 - (RowKit.intOf tu).toNat)
  case atStart => exact ⟨0, 0, false, by omega, by omega, rfl, rfl, by rw [Nat.zero_mul]; exact HF0.out⟩
  case round =>
    obtain ⟨t, dn0, o0, ht, hdn, rfl, rfl, hfs⟩ := hrel
    have HF1 := hide hfs
    clear hfs HF0
    by_cases htl : t < 2
    · have htL : t * L ≤ L := by have := Nat.mul_le_mul_right L (show t ≤ 1 by omega); omega
      have htI : (t : Int) < 2 := by omega
      clear htL htI
      obtain rfl | rfl : t = 0 ∨ t = 1 := by omega
      · rw [show ((0 : Nat) : Int) = (0 : Int) from rfl]
        go_wp2_with fail
        go_loopw [10, 12, 13, 14, 15, 16, 17] (fun d i _ _ _ _ _ W => ∃ m dn : Nat, ∃ o : Bool, m ≤ L ∧ dn ≤ 0 * L + m ∧ i = .int .i64 m ∧ d = .int .i64 dn ∧ FS w W q n 0 after dn (0 * L + m) o) (fun _ i _ _ _ _ _ _ => L - (RowKit.intOf i).toNat)
        case atStart => exact ⟨0, dn0, o0, by omega, by omega, rfl, rfl, HF1.out⟩
        case round =>
          obtain ⟨m, dn, o, hm, hdn', rfl, rfl, hfs⟩ := hrel
          have HF := hide hfs
          clear hfs HF1
          by_cases hml : m < L
          · obtain ⟨b, off, rfl, hnum⟩ : ∃ b off, va = some ⟨b, off, none⟩ ∧ Nums w b off L X := by
              rcases HV.out with h | h
              · omega
              · exact h
            have hcell := (hnum.G HF.out.1) m hml
            have hxb := HX.out m hml
            generalize X m = x at hcell hxb
            clear hnum HV HX
            by_cases hx1 : x < -1
            · go_wp2
              go_roundw
              case rel => exact ⟨m + 1, dn, o, by omega, by omega, by go_num, by go_num, HF.out.less (by omega)⟩
              case measure => simp [RowKit.intOf]; omega
            · by_cases hx2 : (n : Int) ≤ x
              · go_wp2
                go_roundw
                case rel => exact ⟨m + 1, dn, o, by omega, by omega, by go_num, by go_num, HF.out.less (by omega)⟩
                case measure => simp [RowKit.intOf]; omega
              · by_cases hx3 : x = -1
                · subst hx3
                  by_cases hle : after ≤ dn
                  · have hge2 : (after : Int) ≤ (dn : Int) := by omega
                    go_wp2_with fail
                    refine (fs_flush (by omega) HF.out).mono ?_
                    rintro e' w4 hA
                    have hfs : e' = .returned (.int .i64 2) ∧ FS w w4 q n 0 after dn (0 * L + m) true := by
                      rcases hA with ⟨_, _, h3, h4⟩ | ⟨h3, _, _⟩
                      · exact ⟨h3, h4⟩
                      · exact absurd ⟨rfl, hle⟩ h3
                    obtain ⟨rfl, hfs⟩ := hfs
                    have HF4 := hide hfs
                    clear hfs hA HF
                    go_wp2_with fail
                    refine (fs_read (by omega) HF4.out).mono ?_
                    rintro e' w5 ⟨x5, rfl, hf5⟩
                    have HF5 := hide hf5
                    clear hf5 HF4
                    go_wp2_with fail
                    refine (fs_cut HF5.out).mono ?_
                    rintro e' w6 ⟨rfl, hf6⟩
                    have HF6 := hide hf6
                    clear hf6 HF5
                    go_wp2_with fail
                    refine (fs_stat HF6.out).mono ?_
                    rintro e' w7 ⟨a7, b7, c7, _, rfl, hf7⟩
                    have HF7 := hide hf7
                    clear hf7 HF6
                    go_wp2
                    rw [fld]
                    go_wp2
                    go_roundw
                    case rel => exact ⟨m + 1, dn, true, by omega, by omega, by go_num, by go_num, HF7.out.less (by omega)⟩
                    case measure => simp [RowKit.intOf]; omega
                  · have hlt : ¬ (after : Int) ≤ (dn : Int) := by omega
                    have HTT : Hid (¬ (0 = 0 ∧ after ≤ dn)) := hide (fun h => hle h.2)
                    go_wp2_with fail
                    refine (fs_flush (by omega) HF.out).mono ?_
                    rintro e' w4 hA
                    have hfs : e' = .returned (.int .i64 0) ∧ FS w w4 q n 0 after (dn + 1) (0 * L + m + 1) false := by
                      rcases hA with ⟨h1', h2', _, _⟩ | ⟨_, h3, h4⟩
                      · exact (HTT.out ⟨by omega, h2'⟩).elim
                      · exact ⟨h3, h4⟩
                    obtain ⟨rfl, hfs⟩ := hfs
                    have HF4 := hide hfs
                    clear hfs hA HF
                    go_wp2
                    go_roundw
                    case rel => exact ⟨m + 1, (dn + 1), false, by omega, by omega, by go_num, by go_num, HF4.out⟩
                    case measure => simp [RowKit.intOf]; omega
                · obtain ⟨at', rfl⟩ : ∃ k : Nat, x = k := ⟨x.toNat, by omega⟩
                  have hat : at' < n := by omega
                  have hcv : Value.int .u8 (IntKind.u8.wrap (m : Int)) = bv (m % 256) := by
                    rw [IntKind.wrap_u8]
                    simp only [bv]
                    congr 1
                  by_cases hle : after ≤ dn
                  · have hge2 : (after : Int) ≤ (dn : Int) := by omega
                    go_wp2_with fail
                    refine (filled_any _ _).mono ?_
                    rintro e' w3 ⟨x3, rfl, hg3, hb3, hf3⟩
                    have HW3 := hide (fs_write (W := wr) (by omega) at' hat x3 (flL (m % 256)) (flL_len _) (flL_lt _) HF.out hg3 hb3 hf3)
                    clear hg3 hb3 hf3
                    go_wp2_with fail
                    refine HW3.out.mono ?_
                    rintro e' w4 hA
                    clear HW3
                    have hfs : e' = .returned (.int .i64 2) ∧ FS w w4 q n 0 after dn (0 * L + m) true := by
                      rcases hA with ⟨_, _, h3, h4⟩ | ⟨h3, _, _⟩
                      · exact ⟨h3, h4⟩
                      · exact absurd ⟨rfl, hle⟩ h3
                    obtain ⟨rfl, hfs⟩ := hfs
                    have HF4 := hide hfs
                    clear hfs hA HF
                    go_wp2_with fail
                    refine (fs_read (by omega) HF4.out).mono ?_
                    rintro e' w5 ⟨x5, rfl, hf5⟩
                    have HF5 := hide hf5
                    clear hf5 HF4
                    go_wp2_with fail
                    refine (fs_cut HF5.out).mono ?_
                    rintro e' w6 ⟨rfl, hf6⟩
                    have HF6 := hide hf6
                    clear hf6 HF5
                    go_wp2_with fail
                    refine (fs_stat HF6.out).mono ?_
                    rintro e' w7 ⟨a7, b7, c7, _, rfl, hf7⟩
                    have HF7 := hide hf7
                    clear hf7 HF6
                    go_wp2
                    rw [fld]
                    go_wp2
                    go_roundw
                    case rel => exact ⟨m + 1, dn, true, by omega, by omega, by go_num, by go_num, HF7.out.less (by omega)⟩
                    case measure => simp [RowKit.intOf]; omega
                  · have hlt : ¬ (after : Int) ≤ (dn : Int) := by omega
                    have HTT : Hid (¬ (0 = 0 ∧ after ≤ dn)) := hide (fun h => hle h.2)
                    go_wp2_with fail
                    refine (filled_any _ _).mono ?_
                    rintro e' w3 ⟨x3, rfl, hg3, hb3, hf3⟩
                    have HW3 := hide (fs_write (W := wr) (by omega) at' hat x3 (flL (m % 256)) (flL_len _) (flL_lt _) HF.out hg3 hb3 hf3)
                    clear hg3 hb3 hf3
                    go_wp2_with fail
                    refine HW3.out.mono ?_
                    rintro e' w4 hA
                    clear HW3
                    have hfs : e' = .returned (.int .i64 0) ∧ FS w w4 q n 0 after (dn + 1) (0 * L + m + 1) false := by
                      rcases hA with ⟨h1', h2', _, _⟩ | ⟨_, h3, h4⟩
                      · exact (HTT.out ⟨by omega, h2'⟩).elim
                      · exact ⟨h3, h4⟩
                    obtain ⟨rfl, hfs⟩ := hfs
                    have HF4 := hide hfs
                    clear hfs hA HF
                    go_wp2
                    go_roundw
                    case rel => exact ⟨m + 1, (dn + 1), false, by omega, by omega, by go_num, by go_num, HF4.out⟩
                    case measure => simp [RowKit.intOf]; omega
          · obtain rfl : m = L := by omega
            go_wp2_with fail
            refine (fs_stat HF.out).mono ?_
            rintro e' w7 ⟨a7, b7, c7, hab, rfl, hf7⟩
            have HF7 := hide hf7
            clear hf7 HF
            go_wp2_with fail
            refine (fs_crash (by omega) (HF7.out.G ((G.refl _).alloc _))).mono ?_
            rintro e' w8 ⟨k8, rfl, hf8⟩
            have HF8 := hide hf8
            clear hf8 HF7
            go_wp2_with fail
            refine (fs_stat HF8.out).mono ?_
            rintro e' w9 ⟨a9, b9, c9, _, rfl, hf9⟩
            have HF9 := hide hf9
            clear hf9 HF8
            go_wp2_with fail
            rw [fld]
            go_wp2
            go_roundw
            case rel => exact ⟨0 + 1, dn, false, by omega, by omega, by go_num, rfl, HF9.out.less (by omega)⟩
            case measure => first | (simp [RowKit.intOf]; done) | (simp [RowKit.intOf]; omega)
      · rw [show ((1 : Nat) : Int) = (1 : Int) from rfl]
        go_wp2_with fail
        go_loopw [10, 12, 13, 14, 15, 16, 17] (fun d i _ _ _ _ _ W => ∃ m dn : Nat, ∃ o : Bool, m ≤ L ∧ dn ≤ 1 * L + m ∧ i = .int .i64 m ∧ d = .int .i64 dn ∧ FS w W q n 1 after dn (1 * L + m) o) (fun _ i _ _ _ _ _ _ => L - (RowKit.intOf i).toNat)
        case atStart => exact ⟨0, dn0, o0, by omega, by omega, rfl, rfl, HF1.out⟩
        case round =>
          obtain ⟨m, dn, o, hm, hdn', rfl, rfl, hfs⟩ := hrel
          have HF := hide hfs
          clear hfs HF1
          by_cases hml : m < L
          · obtain ⟨b, off, rfl, hnum⟩ : ∃ b off, va = some ⟨b, off, none⟩ ∧ Nums w b off L X := by
              rcases HV.out with h | h
              · omega
              · exact h
            have hcell := (hnum.G HF.out.1) m hml
            have hxb := HX.out m hml
            generalize X m = x at hcell hxb
            clear hnum HV HX
            by_cases hx1 : x < -1
            · go_wp2
              go_roundw
              case rel => exact ⟨m + 1, dn, o, by omega, by omega, by go_num, by go_num, HF.out.less (by omega)⟩
              case measure => simp [RowKit.intOf]; omega
            · by_cases hx2 : (n : Int) ≤ x
              · go_wp2
                go_roundw
                case rel => exact ⟨m + 1, dn, o, by omega, by omega, by go_num, by go_num, HF.out.less (by omega)⟩
                case measure => simp [RowKit.intOf]; omega
              · by_cases hx3 : x = -1
                · subst hx3
                  have HTT : Hid (¬ (1 = 0 ∧ after ≤ dn)) := hide (by omega)
                  go_wp2_with fail
                  refine (fs_flush (by omega) HF.out).mono ?_
                  rintro e' w4 hA
                  have hfs : e' = .returned (.int .i64 0) ∧ FS w w4 q n 1 after (dn + 1) (1 * L + m + 1) false := by
                    rcases hA with ⟨h1', h2', _, _⟩ | ⟨_, h3, h4⟩
                    · exact (HTT.out ⟨by omega, h2'⟩).elim
                    · exact ⟨h3, h4⟩
                  obtain ⟨rfl, hfs⟩ := hfs
                  have HF4 := hide hfs
                  clear hfs hA HF
                  go_wp2
                  go_roundw
                  case rel => exact ⟨m + 1, (dn + 1), false, by omega, by omega, by go_num, by go_num, HF4.out⟩
                  case measure => simp [RowKit.intOf]; omega
                · obtain ⟨at', rfl⟩ : ∃ k : Nat, x = k := ⟨x.toNat, by omega⟩
                  have hat : at' < n := by omega
                  have hcv : Value.int .u8 (IntKind.u8.wrap (m : Int)) = bv (m % 256) := by
                    rw [IntKind.wrap_u8]
                    simp only [bv]
                    congr 1
                  have HTT : Hid (¬ (1 = 0 ∧ after ≤ dn)) := hide (by omega)
                  go_wp2_with fail
                  refine (filled_any _ _).mono ?_
                  rintro e' w3 ⟨x3, rfl, hg3, hb3, hf3⟩
                  have HW3 := hide (fs_write (W := wr) (by omega) at' hat x3 (flL (m % 256)) (flL_len _) (flL_lt _) HF.out hg3 hb3 hf3)
                  clear hg3 hb3 hf3
                  go_wp2_with fail
                  refine HW3.out.mono ?_
                  rintro e' w4 hA
                  clear HW3
                  have hfs : e' = .returned (.int .i64 0) ∧ FS w w4 q n 1 after (dn + 1) (1 * L + m + 1) false := by
                    rcases hA with ⟨h1', h2', _, _⟩ | ⟨_, h3, h4⟩
                    · exact (HTT.out ⟨by omega, h2'⟩).elim
                    · exact ⟨h3, h4⟩
                  obtain ⟨rfl, hfs⟩ := hfs
                  have HF4 := hide hfs
                  clear hfs hA HF
                  go_wp2
                  go_roundw
                  case rel => exact ⟨m + 1, (dn + 1), false, by omega, by omega, by go_num, by go_num, HF4.out⟩
                  case measure => simp [RowKit.intOf]; omega
          · obtain rfl : m = L := by omega
            go_wp2_with fail
            refine (fs_stat HF.out).mono ?_
            rintro e' w7 ⟨a7, b7, c7, hab, rfl, hf7⟩
            have HF7 := hide hf7
            clear hf7 HF
            go_wp2_with fail
            refine (fs_crash (by omega) (HF7.out.G ((G.refl _).alloc _))).mono ?_
            rintro e' w8 ⟨k8, rfl, hf8⟩
            have HF8 := hide hf8
            clear hf8 HF7
            go_wp2_with fail
            refine (fs_stat HF8.out).mono ?_
            rintro e' w9 ⟨a9, b9, c9, _, rfl, hf9⟩
            have HF9 := hide hf9
            clear hf9 HF8
            go_wp2_with fail
            rw [fld]
            go_wp2
            go_roundw
            case rel => exact ⟨1 + 1, dn, false, by omega, by omega, by go_num, rfl, HF9.out.less (by omega)⟩
            case measure => first | (simp [RowKit.intOf]; done) | (simp [RowKit.intOf]; omega)
    · go_wp2
      go_ret
      exact ⟨rfl, HF1.out.1⟩
end Go.Proofs.Ytkbeldnndhhioaa
