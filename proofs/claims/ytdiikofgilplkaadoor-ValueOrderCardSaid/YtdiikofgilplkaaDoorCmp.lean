/- value.compare, at whatever two items: generic in what the items are. -/
import Derived.Test.YtdiikofgilplkaaDoorBase
import Derived.Lib.Bytealg
namespace Go.Proofs.YtdiikofgilplkaaDoor
open Go.RowKit Go.Lib

/-- Which of two numbers is the lesser. -/
def cI (x y : Int) : Int := if x < y then -1 else if y < x then 1 else 0
set_option maxHeartbeats 400000 in
theorem cmp_int (x y : Int) (w : World) : Calls Tryd.prog 31 #[.int .i64 x, .int .i64 y] w fun e w' => e = .returned (.int .i64 (cI x y)) ∧ w' = w := by
  unfold cI
  by_cases h1 : x < y
  · go_enter Tryd.func31, Tryd.ntmps31
    go_wp2
    go_ret
    exact ⟨by first | rfl | (simp; done), rfl⟩
  · by_cases h2 : y < x
    · go_enter Tryd.func31, Tryd.ntmps31
      go_wp2
      go_ret
      exact ⟨by first | rfl | (simp; done), rfl⟩
    · go_enter Tryd.func31, Tryd.ntmps31
      go_wp2
      go_ret
      exact ⟨by first | rfl | (simp; done), rfl⟩
set_option maxHeartbeats 400000 in
theorem cmp_i64 (x y : Int) (w : World) : Calls Tryd.prog 32 #[.int .i64 x, .int .i64 y] w fun e w' => e = .returned (.int .i64 (cI x y)) ∧ w' = w := by
  unfold cI
  by_cases h1 : x < y
  · go_enter Tryd.func32, Tryd.ntmps32
    go_wp2
    go_ret
    exact ⟨by first | rfl | (simp; done), rfl⟩
  · by_cases h2 : y < x
    · go_enter Tryd.func32, Tryd.ntmps32
      go_wp2
      go_ret
      exact ⟨by first | rfl | (simp; done), rfl⟩
    · go_enter Tryd.func32, Tryd.ntmps32
      go_wp2
      go_ret
      exact ⟨by first | rfl | (simp; done), rfl⟩
theorem q_cs1 : (Tryd.f50.name == "runtime.NumGoroutine") = false := by kernel_rfl
theorem q_cs2 : Tryd.f50.body.isNone = true := by kernel_rfl
theorem q_cs3 : Extern.findNext Tryd.f50 = none := by kernel_rfl
theorem q_cs4 : Extern.find Tryd.f50 = some Extern.BytealgCompare.compare := by kernel_rfl
theorem run_cs (a b : ByteArray) (w : World) : (callFunc 50 #[.string a, .string b]).run Tryd.prog w = .ok (.value (.int .i64 (compareBytes a.data.toList b.data.toList))) w := by
  rw [run_callFunc_extern Tryd.func50 q_cs1 q_cs2 q_cs3 q_cs4, run_compareString]
  rfl
set_option maxHeartbeats 400000 in
theorem cmp_str (a b : ByteArray) (w : World) : Calls Tryd.prog 33 #[.string a, .string b] w fun e w' => e = .returned (.int .i64 (compareBytes a.data.toList b.data.toList)) ∧ w' = w := by
  have h := run_cs a b
  generalize compareBytes a.data.toList b.data.toList = c at h
  go_enter Tryd.func33, Tryd.ntmps33
  go_wp2
  go_ret
  exact ⟨rfl, rfl⟩
/-- The first of five that is not 0. -/
def or5 (a b c d e : Int) : Int := if a ≠ 0 then a else if b ≠ 0 then b else if c ≠ 0 then c else if d ≠ 0 then d else e
set_option maxRecDepth 100000 in
set_option maxHeartbeats 1000000 in
theorem or_any (p n : Nat) (f : Nat → Int) (hn : n ≤ 1000) (w : World) (hc : ∀ i, i < n → w.cell? ⟨p, i, none⟩ = some (.int .i64 (f i))) :
    Calls Tryd.prog 30 #[.slice (some ⟨p, 0, none⟩) n n] w fun e w' => (∃ r : Int, e = .returned (.int .i64 r) ∧ ((r = 0 ∧ ∀ i, i < n → f i = 0) ∨ ∃ m, m < n ∧ (∀ i, i < m → f i = 0) ∧ f m ≠ 0 ∧ r = f m)) ∧ w' = w := by
  go_enter Tryd.func30, Tryd.ntmps30
  go_wp2
  go_loopw [8] (fun i W => ∃ m : Nat, m ≤ n ∧ i = .int .i64 m ∧ W = w ∧ ∀ j, j < m → f j = 0) (fun i _ => n - (RowKit.intOf i).toNat)
  case atStart => exact ⟨0, by omega, rfl, rfl, fun j hj => absurd hj (Nat.not_lt_zero j)⟩
  case round =>
    obtain ⟨m, hm, rfl, rfl, hz⟩ := hrel
    by_cases hlt : m < n
    · have h0 := hc m hlt
      by_cases hf : f m = 0
      · rw [hf] at h0
        go_wp2
        go_roundw
        case rel => exact ⟨m + 1, by omega, by go_num, by trivial, fun j hj => by
          rcases Nat.lt_or_ge j m with c | c
          · exact hz j c
          · have : j = m := by omega
            rw [this]; exact hf⟩
        case measure => simp [RowKit.intOf]; omega
      · have HF : Hid _ := hf
        have hf' : (f m != 0) = true := by simpa using hf
        clear hf
        generalize hg : f m = g at h0 hf'
        go_wp2
        go_ret
        exact ⟨⟨g, rfl, .inr ⟨m, hlt, hz, HF.out, hg.symm⟩⟩, rfl⟩
    · go_wp2
      go_ret
      exact ⟨⟨0, rfl, .inl ⟨rfl, fun i hi => hz i (by omega)⟩⟩, rfl⟩
end Go.Proofs.YtdiikofgilplkaaDoor
