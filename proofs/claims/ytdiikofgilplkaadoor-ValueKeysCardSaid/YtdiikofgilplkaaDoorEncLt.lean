/- The bytes of values are bytes. -/
import Derived.Test.YtdiikofgilplkaaDoorEnc5
import Derived.Test.YtdiikofgilplkaaDoorDec0
namespace Go.Proofs.YtdiikofgilplkaaDoor
open Go.RowKit Go.Shelf Go.PlainAid Go.Lib

theorem encW_lt (n : Int) (h1 : -9223372036854775808 ≤ n) (h2 : n ≤ 9223372036854775807) : ∀ d ∈ encW n, d < 256 := by
  have hl := low_len n h1 h2
  intro d hd
  unfold encW at hd
  rcases List.mem_cons.1 hd with rfl | hd
  · split <;> omega
  · rw [List.mem_reverse, lowB_eq] at hd
    obtain ⟨x, hx, rfl⟩ := List.mem_map.1 hd
    have := digs_lt _ x hx
    unfold flipB; split <;> omega
theorem strB_lt (s : ByteArray) (m : Nat) : ∀ d ∈ strB s m, d < 256 := by
  induction m with
  | zero => simp [strB, encS]
  | succ m ih =>
    intro d hd
    have h1 := bt_le s m
    have h0 := bt_nonneg s m
    by_cases hz : bt s m = 0
    · rw [strB_zero s m hz] at hd
      rcases List.mem_append.1 hd with hd | hd
      · exact ih d hd
      · simp at hd; omega
    · rw [strB_other s m hz] at hd
      rcases List.mem_append.1 hd with hd | hd
      · exact ih d hd
      · simp at hd; omega
theorem enc_lt (k a b : Int) (s : ByteArray) (h : okV k a b s = true) (ha : R64 a) (hb : R64 b) : ∀ d ∈ encV k a b s, d < 256 := by
  have hA := encW_lt a ha.1 ha.2
  have hB := encW_lt b hb.1 hb.2
  have hS := strB_lt s s.size
  rcases okV_kindE h with rfl | rfl | rfl | rfl | rfl | rfl | rfl <;> intro d hd
  · have : d ∈ [80] := hd
    simp at this; omega
  · have : d ∈ [48, a.toNat] := hd
    have ha' : a = 0 ∨ a = 1 := by simp [okV, Bool.and_eq_true] at h; exact h.1.1
    simp at this; omega
  · have : d ∈ encW a ++ [0] := hd
    rcases List.mem_append.1 this with h1 | h1
    · exact hA d h1
    · simp at h1; omega
  · have : d ∈ (encW a ++ [1]) ++ encW b := hd
    rcases List.mem_append.1 this with h1 | h1
    · rcases List.mem_append.1 h1 with h1 | h1
      · exact hA d h1
      · simp at h1; omega
    · exact hB d h1
  · have : d ∈ (32 :: strB s s.size) ++ [0, 0] := hd
    rcases List.mem_append.1 this with h1 | h1
    · rcases List.mem_cons.1 h1 with h1 | h1
      · omega
      · exact hS d h1
    · simp at h1; omega
  · have : d ∈ 16 :: encW a := hd
    rcases List.mem_cons.1 this with h1 | h1
    · omega
    · exact hA d h1
  · have : d ∈ 17 :: encW a := hd
    rcases List.mem_cons.1 this with h1 | h1
    · omega
    · exact hA d h1
end Go.Proofs.YtdiikofgilplkaaDoor
