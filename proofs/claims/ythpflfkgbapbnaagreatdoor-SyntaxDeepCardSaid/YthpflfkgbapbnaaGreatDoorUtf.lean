/- trellisref1.points against the library's own notion of a well-formed string. -/
import Derived.Test.YthpflfkgbapbnaaGreatDoorBase
import Derived.PlainAid
import Derived.LoopN
import Derived.Lib.ValidLaws
import Derived.Lib.DecodeN
import Derived.LoopTactic
namespace Go.Proofs.YthpflfkgbapbnaaGreatDoor
section
open Go.RowKit Go.PlainAid

theorem ret_pt {c a b : Int} (h : a = b) : Ending.returned (.tuple #[.int .i64 c, .int .i64 a]) = .returned (.tuple #[.int .i64 c, .int .i64 b]) := by rw [h]
/-- The bytes of a code point of two, three, four bytes; 0: none. -/
def p2 (n B0 B1 : Int) : Int := if 2 ≤ n ∧ 128 ≤ B1 ∧ B1 < 192 ∧ 128 ≤ (B0 - 192) * 64 + B1 - 128 then 2 else 0
def p3 (n B0 B1 B2 : Int) : Int := if 3 ≤ n ∧ 128 ≤ B1 ∧ B1 < 192 ∧ 128 ≤ B2 ∧ B2 < 192 ∧ 2048 ≤ ((B0 - 224) * 64 + B1 - 128) * 64 + B2 - 128 ∧ (((B0 - 224) * 64 + B1 - 128) * 64 + B2 - 128 < 55296 ∨ 57344 ≤ ((B0 - 224) * 64 + B1 - 128) * 64 + B2 - 128) then 3 else 0
def p4 (n B0 B1 B2 B3 : Int) : Int := if 4 ≤ n ∧ 128 ≤ B1 ∧ B1 < 192 ∧ 128 ≤ B2 ∧ B2 < 192 ∧ 128 ≤ B3 ∧ B3 < 192 ∧ 65536 ≤ (((B0 - 240) * 64 + B1 - 128) * 64 + B2 - 128) * 64 + B3 - 128 ∧ (((B0 - 240) * 64 + B1 - 128) * 64 + B2 - 128) * 64 + B3 - 128 ≤ 1114111 then 4 else 0
/-- The bytes of the code point that begins at i. -/
def ptS (s : ByteArray) (i : Nat) : Int :=
  if bt s i < 128 then 1
  else if bt s i < 192 then 0
  else if bt s i < 224 then p2 (s.size - i) (bt s i) (bt s (i + 1))
  else if bt s i < 240 then p3 (s.size - i) (bt s i) (bt s (i + 1)) (bt s (i + 2))
  else if bt s i < 248 then p4 (s.size - i) (bt s i) (bt s (i + 1)) (bt s (i + 2)) (bt s (i + 3))
  else 0
end
open Go.RowKit Go.PlainAid Go.Lib

/-- ptS over numbers. -/
def ptI (n B0 B1 B2 B3 : Int) : Int :=
  if B0 < 128 then 1
  else if B0 < 192 then 0
  else if B0 < 224 then p2 n B0 B1
  else if B0 < 240 then p3 n B0 B1 B2
  else if B0 < 248 then p4 n B0 B1 B2 B3
  else 0
theorem ptS_I (s : ByteArray) (i : Nat) : ptS s i = ptI (s.size - i) (bt s i) (bt s (i + 1)) (bt s (i + 2)) (bt s (i + 3)) := rfl
/-- No code point there: none in the library's decoding; else as many bytes. -/
def Same (p : Int) (n : Nat) (r : Nat × Nat) : Prop := (p = 0 ∧ r = (65533, 1)) ∨ (p = (r.2 : Int) ∧ 1 ≤ r.2 ∧ r.2 ≤ n ∧ ¬ (r.1 = 65533 ∧ r.2 = 1))
set_option maxHeartbeats 2000000 in
theorem pt_core (n b0 b1 b2 b3 : Nat) (hn : 1 ≤ n) (h0 : b0 < 256) (h1 : b1 < 256) (h2 : b2 < 256) (h3 : b3 < 256) : Same (ptI n b0 b1 b2 b3) n (decodeN n b0 b1 b2 b3) := by
  unfold ptI p2 p3 p4 decodeN Same
  repeat' split
  all_goals first
    | exact Or.inl ⟨rfl, rfl⟩
    | (exfalso; omega)
    | (refine Or.inr ⟨rfl, ?_, ?_, ?_⟩ <;> simp only <;> omega)
theorem bt_get (s : ByteArray) (i : Nat) : bt s i = ((s.get! i).toNat : Int) := by
  by_cases h : i < s.size
  · unfold bt
    rw [dif_pos h]
    have : s.get! i = s[i] := by
      show s.data[i]! = s.data[i]
      exact getElem!_pos s.data i h
    rw [this]
  · rw [bt_end s (by omega)]
    have : s.get! i = 0 := by
      show s.data[i]! = 0
      exact getElem!_neg s.data i h
    rw [this]; rfl
theorem pt_dec (s : ByteArray) (i : Nat) (h : i < s.size) : Same (ptS s i) (s.size - i) (Utf8.decode s i) := by
  rw [decode_at, ptS_I, bt_get, bt_get, bt_get, bt_get]
  have e : ((s.size : Int) - (i : Int)) = ((s.size - i : Nat) : Int) := by omega
  rw [e]
  exact pt_core _ _ _ _ _ (by omega) (UInt8.toNat_lt _) (UInt8.toNat_lt _) (UInt8.toNat_lt _) (UInt8.toNat_lt _)
theorem get_getD (s : ByteArray) (i : Nat) : s.get! i = s.data.toList.getD i 0 := by
  rw [List.getD_eq_getElem?_getD, Array.getElem?_toList]
  show s.data[i]! = _
  rw [getElem!_def]
  cases s.data[i]? <;> rfl
theorem dec_drop (s : ByteArray) (i : Nat) : decodeL (s.data.toList.drop i) = Utf8.decode s i := by
  unfold decodeL
  rw [decode_at, decode_at]
  have g : ∀ k, (ByteArray.mk (s.data.toList.drop i).toArray).get! k = s.get! (i + k) := fun k => by
    rw [get_getD, get_getD, List.getD_eq_getElem?_getD, List.getD_eq_getElem?_getD]
    show ((s.data.toList.drop i)[k]?).getD 0 = _
    rw [List.getElem?_drop]
  have z : (ByteArray.mk (s.data.toList.drop i).toArray).size = s.size - i := by
    show (s.data.toList.drop i).toArray.size = s.data.size - i
    rw [List.size_toArray, List.length_drop, Array.length_toList]
  rw [g, g, g, g, z]
  rfl
theorem drop_ne (s : ByteArray) (i : Nat) (h : i < s.size) : s.data.toList.drop i ≠ [] := by
  intro e
  have := congrArg List.length e
  rw [List.length_drop, Array.length_toList] at this
  have : s.data.size - i = 0 := this
  have : s.size = s.data.size := rfl
  omega
/-- One step: no code point: not well-formed; else on behind it. -/
theorem valid_at (s : ByteArray) (i : Nat) (h : i < s.size) :
    (ptS s i = 0 ∧ validD (s.data.toList.drop i) = false) ∨ (∃ k : Nat, ptS s i = k ∧ 1 ≤ k ∧ i + k ≤ s.size ∧ validD (s.data.toList.drop i) = validD (s.data.toList.drop (i + k))) := by
  have hv := validD_step (s.data.toList.drop i) (drop_ne s i h)
  rw [dec_drop] at hv
  rcases pt_dec s i h with ⟨h1, h2⟩ | ⟨h1, h2, h3, h4⟩
  · rw [if_pos (by rw [h2]; exact ⟨rfl, rfl⟩)] at hv
    exact Or.inl ⟨h1, hv⟩
  · rw [if_neg h4, List.drop_drop] at hv
    exact Or.inr ⟨_, h1, h2, by omega, hv⟩
end Go.Proofs.YthpflfkgbapbnaaGreatDoor
