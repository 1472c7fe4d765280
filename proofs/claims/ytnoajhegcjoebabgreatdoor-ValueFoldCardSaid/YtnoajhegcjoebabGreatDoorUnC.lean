/- The complex numbers' unary; how many code points a string has. -/
import Derived.Test.YtnoajhegcjoebabGreatDoorCpx
import Derived.Test.YtnoajhegcjoebabGreatDoorArithW
import Derived.Test.YtnoajhegcjoebabGreatDoorUtf
import Derived.Laws.RangeAny
namespace Go.Proofs.YtnoajhegcjoebabGreatDoor
open Go.RowKit Go.PlainAid

abbrev IC (x y : Nat) : Value := .iface 127 (.complex .f64 x y)
theorem sq_bd (a : Int) (h1 : -33554432 ≤ a) (h2 : a ≤ 33554432) : 0 ≤ a * a ∧ a * a ≤ 1125899906842624 := by
  have e : a * a = ((a.natAbs * a.natAbs : Nat) : Int) := (Int.natAbs_mul_self).symm
  have : a.natAbs * a.natAbs ≤ 33554432 * 33554432 := Nat.mul_le_mul (by omega) (by omega)
  omega
set_option maxRecDepth 100000 in
set_option maxHeartbeats 400000 in
theorem cu_norm (x y : Nat) (a b : Int) (hx : Fl x a) (hy : Fl y b) (a1 : -33554432 ≤ a) (a2 : a ≤ 33554432) (b1 : -33554432 ≤ b) (b2 : b ≤ 33554432) (w : World) : Calls Tryz.prog 254 #[.complex .f64 x y, .int .i64 6] w fun e w' => e = .returned (.tuple #[IW (a * a + b * b), .int .i64 0]) ∧ G w w' := by
  have m1 := sq_bd a a1 a2; have m2 := sq_bd b b1 b2
  have HN : Hid (∀ w, Calls Tryz.prog 172 #[.complex .f64 x y] w fun e w' => (∃ r, e = .returned (.float .f64 r) ∧ Fl r (a * a + b * b)) ∧ w' = w) := fun w => norm_fl x y a b hx hy (by omega) (by omega) (by omega) w
  have HS : Hid ((a * a + b * b).natAbs < 2 ^ 53) := by show (a * a + b * b).natAbs < 2 ^ 53; omega
  clear hx hy a1 a2 b1 b2 m1 m2
  go_enter Tryz.func254, Tryz.ntmps254
  go_wp2_with fail
  refine (HN.out _).mono ?_
  rintro e w1 ⟨⟨r, rfl, hr⟩, rfl⟩
  have c1 := fun w => run_convert_float_int (P := Tryz.prog) w 75 126 .f64 .i64 r (a * a + b * b) (by kernel_rfl) Tryz.underlying126 (hr.toInt HS.out)
  clear hr
  go_wp2
  go_ret2
  exact ⟨rfl, G.refl _⟩
set_option maxRecDepth 100000 in
set_option maxHeartbeats 400000 in
theorem cu_conj (x y : Nat) (w : World) : Calls Tryz.prog 254 #[.complex .f64 x y, .int .i64 5] w fun e w' => e = .returned (.tuple #[IC x (Op.negFloat .f64 y), .int .i64 0]) ∧ G w w' := by
  go_enter Tryz.func254, Tryz.ntmps254
  go_wp2_with fail
  refine (conj_any x y _).mono ?_
  rintro e w1 ⟨rfl, rfl⟩
  go_wp2
  go_ret2
  exact ⟨rfl, G.refl _⟩
set_option maxRecDepth 100000 in
set_option maxHeartbeats 400000 in
theorem cu_neg (x y : Nat) (w : World) : Calls Tryz.prog 254 #[.complex .f64 x y, .int .i64 1] w fun e w' => e = .returned (.tuple #[IC (Op.negFloat .f64 x) (Op.negFloat .f64 y), .int .i64 0]) ∧ G w w' := by
  have hn : Op.unary .neg (.complex .f64 x y) = pure (.complex .f64 (Op.negFloat .f64 x) (Op.negFloat .f64 y)) := rfl
  go_enter Tryz.func254, Tryz.ntmps254
  go_wp2
  go_ret2
  exact ⟨rfl, G.refl _⟩
set_option maxRecDepth 100000 in
set_option maxHeartbeats 400000 in
theorem cu_re (x y : Nat) (a : Int) (h : Fl x a) (ha : a.natAbs < 2 ^ 53) (w : World) : Calls Tryz.prog 254 #[.complex .f64 x y, .int .i64 3] w fun e w' => e = .returned (.tuple #[IW a, .int .i64 0]) ∧ G w w' := by
  have c1 := fun w => run_convert_float_int (P := Tryz.prog) w 75 126 .f64 .i64 x a (by kernel_rfl) Tryz.underlying126 (h.toInt ha)
  clear h ha
  go_enter Tryz.func254, Tryz.ntmps254
  go_wp2
  go_ret2
  exact ⟨rfl, G.refl _⟩
set_option maxRecDepth 100000 in
set_option maxHeartbeats 400000 in
theorem cu_im (x y : Nat) (b : Int) (h : Fl y b) (ha : b.natAbs < 2 ^ 53) (w : World) : Calls Tryz.prog 254 #[.complex .f64 x y, .int .i64 4] w fun e w' => e = .returned (.tuple #[IW b, .int .i64 0]) ∧ G w w' := by
  have c1 := fun w => run_convert_float_int (P := Tryz.prog) w 75 126 .f64 .i64 y b (by kernel_rfl) Tryz.underlying126 (h.toInt ha)
  clear h ha
  go_enter Tryz.func254, Tryz.ntmps254
  go_wp2
  go_ret2
  exact ⟨rfl, G.refl _⟩
set_option maxRecDepth 100000 in
set_option maxHeartbeats 400000 in
theorem cu_no (x y : Nat) (op : Int) (h : op = 2 ∨ op = 7 ∨ op = 8) (w : World) : Calls Tryz.prog 254 #[.complex .f64 x y, .int .i64 op] w fun e w' => e = .returned (.tuple #[.nilIface, .int .i64 10]) ∧ G w w' := by
  have n1 : (op == 1) = false := by simp; omega
  have n3 : (op == 3) = false := by simp; omega
  have n4 : (op == 4) = false := by simp; omega
  have n5 : (op == 5) = false := by simp; omega
  have n6 : (op == 6) = false := by simp; omega
  clear h
  go_enter Tryz.func254, Tryz.ntmps254
  go_wp2
  go_ret2
  exact ⟨rfl, G.refl _⟩
/-- Where the code point of a number begins. -/
def stp (s : ByteArray) : Nat → Nat
  | 0 => 0
  | n + 1 => stp s n + (Utf8.decode s (stp s n)).2
/-- So many code points has s. -/
def PtEnd (s : ByteArray) (n : Nat) : Prop := s.size ≤ stp s n ∧ ∀ m, m < n → stp s m < s.size
theorem PtEnd.one {s : ByteArray} {n m : Nat} (h : PtEnd s n) (k : PtEnd s m) : n = m := by
  rcases Nat.lt_trichotomy n m with e | e | e
  · have := k.2 n e; have := h.1; omega
  · exact e
  · have := h.2 m e; have := k.1; omega
theorem dec_pos (s : ByteArray) (i : Nat) (h : i < s.size) : 1 ≤ (Utf8.decode s i).2 := by
  rcases pt_dec s i h with ⟨_, h2⟩ | ⟨_, h2, _⟩
  · rw [h2]; decide
  · exact h2
theorem stp_le (s : ByteArray) : ∀ n, (∀ m, m < n → stp s m < s.size) → n ≤ stp s n
  | 0, _ => Nat.le_refl _
  | n + 1, h => by
    have := stp_le s n (fun m hm => h m (by omega))
    have := dec_pos s (stp s n) (h n (by omega))
    show n + 1 ≤ stp s n + (Utf8.decode s (stp s n)).2
    omega
theorem stp_more {s : ByteArray} {n : Nat} (h : ∀ m, m < n → stp s m < s.size) (k : stp s n < s.size) : ∀ m, m < n + 1 → stp s m < s.size := fun m hm => by
  rcases Nat.lt_succ_iff_lt_or_eq.1 hm with e | e
  · exact h m e
  · rw [e]; exact k
set_option maxRecDepth 100000 in
set_option maxHeartbeats 400000 in
theorem points_fl (s : ByteArray) (hs : s.size ≤ 4611686018427387904) (w : World) : Calls Tryz.prog 263 #[.string s] w fun e w' => (∃ n : Nat, e = .returned (.int .i64 n) ∧ PtEnd s n) ∧ G w w' := by
  go_enter Tryz.func263, Tryz.ntmps263
  go_wp2
  go_loopw [3] (fun n W => ∃ k : Nat, n = .int .i64 k ∧ W = w.iter s (stp s k) ∧ ∀ m, m < k → stp s m < s.size) (fun _ W => s.size - W.iterPos w.heap.size)
  case atStart => exact ⟨0, rfl, rfl, fun m hm => absurd hm (Nat.not_lt_zero m)⟩
  case round =>
    obtain ⟨k, rfl, rfl, hk⟩ := hrel
    have HK : Hid _ := hk
    have hle := stp_le s k hk
    clear hk
    by_cases h : stp s k < s.size
    · have hnx := fun ty => run_next_any (P := Tryz.prog) w s (stp s k) ty h
      have HD : Hid _ := dec_pos s (stp s k) h
      have hk' : (k : Int) < 4611686018427387904 := by omega
      go_wp2
      go_roundw
      case rel => exact ⟨k + 1, by go_num, rfl, stp_more HK.out h⟩
      case measure => have := HD.out; simp; omega
    · have hnx := fun ty => run_next_end (P := Tryz.prog) w s (stp s k) ty h
      go_wp2
      go_ret
      exact ⟨⟨k, rfl, by omega, HK.out⟩, (G.refl w).alloc _⟩
set_option maxRecDepth 100000 in
set_option maxHeartbeats 1000000 in
/-- trellisref1.points, with how many there are. -/
theorem points_cnt (s : ByteArray) (hs : s.size ≤ 4611686018427387904) (hok : Go.Lib.validD s.data.toList = true) (w : World) :
    Calls Tryz.prog 38 #[.string s] w fun e w' => (∃ n : Nat, e = .returned (.int .i64 n) ∧ PtEnd s n) ∧ w' = w := by
  go_enter Tryz.func38, Tryz.ntmps38
  go_wp2
  go_loop [3, 4] (fun k i => ∃ m : Nat, k = .int .i64 m ∧ i = .int .i64 (stp s m) ∧ (∀ j, j < m → stp s j < s.size) ∧ Go.Lib.validD s.data.toList = Go.Lib.validD (s.data.toList.drop (stp s m))) (fun _ i => s.size - (RowKit.intOf i).toNat)
  case atStart => exact ⟨0, rfl, rfl, fun m hm => absurd hm (Nat.not_lt_zero m), by rw [show stp s 0 = 0 from rfl, List.drop_zero]⟩
  case round =>
    obtain ⟨m, rfl, rfl, hv, hd⟩ := hrel
    have HV : Hid _ := hv
    have HD : Hid (Go.Lib.validD s.data.toList = Go.Lib.validD (s.data.toList.drop (stp s m))) := hd
    have HO : Hid (Go.Lib.validD s.data.toList = true) := hok
    have hle := stp_le s m hv
    clear hv hd hok
    by_cases hlt : stp s m < s.size
    · have HA : Hid _ := valid_at s (stp s m) hlt
      have HB : Hid _ := pt_dec s (stp s m) hlt
      have hI : ((stp s m : Nat) : Int) < (s.size : Int) := by omega
      have HP : Hid _ := point_any s (stp s m) hlt hs
      go_wp2_with fail
      refine (HP.out _).mono ?_
      rintro e w1 ⟨⟨c, rfl⟩, rfl⟩
      rcases HA.out with ⟨h1, h2⟩ | ⟨k, h1, h2, h3, h4⟩
      · exfalso
        have := HD.out
        rw [HO.out, h2] at this
        exact Bool.noConfusion this
      · rw [h1]
        have H4 : Hid _ := h4
        have z : ((k : Int) == 0) = false := by simp; omega
        have HS : Hid (stp s (m + 1) = stp s m + k) := by
          rcases HB.out with ⟨q1, _⟩ | ⟨q1, _⟩
          · exfalso; rw [h1] at q1; omega
          · show stp s m + (Utf8.decode s (stp s m)).2 = stp s m + k
            rw [h1] at q1; omega
        clear h1 h4
        go_wp2
        go_round
        case rel => exact ⟨m + 1, by go_num, by rw [HS.out]; go_num, stp_more HV.out hlt, by rw [HS.out, HD.out]; exact H4.out⟩
        case measure => simp [RowKit.intOf]; omega
    · have hI : ¬ ((stp s m : Nat) : Int) < (s.size : Int) := by omega
      go_wp2
      go_ret
      exact ⟨⟨m, rfl, by omega, HV.out⟩, rfl⟩
set_option maxRecDepth 100000 in
set_option maxHeartbeats 400000 in
theorem un_str_7 (s : ByteArray) (n : Nat) (hn : PtEnd s n) (hs : s.size ≤ 4611686018427387904) (w : World) : Calls Tryz.prog 259 #[.string s, .int .i64 7] w fun e w' => e = .returned (.tuple #[IW n, .int .i64 0]) ∧ G w w' := by
  have HP : Hid _ := points_fl s hs
  have HN : Hid _ := hn
  clear hn
  go_enter Tryz.func259, Tryz.ntmps259
  go_wp2_with fail
  refine (HP.out _).mono ?_
  rintro e w1 ⟨⟨m, rfl, hm⟩, hb1⟩
  obtain rfl := hm.one HN.out
  clear hm
  go_wp2
  go_ret2
  exact ⟨rfl, hb1⟩
end Go.Proofs.YtnoajhegcjoebabGreatDoor
