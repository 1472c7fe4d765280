/- Bytes as a string; value.takeString. -/
import Derived.Test.YtdiikofgilplkaaDoorDec1
import Derived.Laws.BytesArg
import Derived.Lib.Bytes
namespace Go.Proofs.YtdiikofgilplkaaDoor
open Go.RowKit Go.Shelf Go.PlainAid Go.Lib

/-- The string of these bytes. -/
def strN (xs : List Nat) : ByteArray := strOfNums (xs.map fun d : Nat => (d : Int))
theorem row_str {w : World} {x : Value} {xs : List Nat} (h : RowB w x xs) : (convert 23 9 x).run Tryd.prog w = .ok (.string (strN xs)) w := by
  obtain ⟨p, cap, rfl, hcap, hc⟩ := h
  cases xs with
  | nil =>
    cases p with
    | none =>
      have e : strN [] = ByteArray.empty := rfl
      rw [e]
      exact run_convert_bytes_nil w 23 5 Tryd.underlying23 Tryd.underlying5 0 cap 9 Tryd.underlying9
    | some a =>
      have e : strN [] = ByteArray.empty := rfl
      rw [e]
      have h := run_convert_bytes_string (P := Tryd.prog) w 23 9 5 (some a) 0 cap Tryd.underlying23 Tryd.underlying5 Tryd.underlying9
      refine h.trans ?_
      simp [Conv.bytesToString, loadCells, loadCellsFrom]
  | cons d xs =>
    obtain ⟨g, o, rfl, hcell⟩ := hc 0 d rfl
    refine run_convert_bytes_arg w 23 5 Tryd.underlying23 Tryd.underlying5 g o _ cap ((d :: xs).map fun d : Nat => (d : Int)) (by simp) (fun i hi => ?_) 9 Tryd.underlying9
    obtain ⟨e, he⟩ : ∃ e, (d :: xs)[i]? = some e := ⟨_, List.getElem?_eq_getElem hi⟩
    obtain ⟨g', o', hp, h2⟩ := hc i e he
    cases hp
    rw [h2, List.getD, List.getElem?_map, he]
    rfl
theorem strN_back (s : ByteArray) : strN ((List.range s.size).map fun k => (bt s k).toNat) = s := by
  have h : (strN ((List.range s.size).map fun k => (bt s k).toNat)).data.toList = s.data.toList := by
    have e1 : (strN ((List.range s.size).map fun k => (bt s k).toNat)).data.toList = bytesOf (((List.range s.size).map fun k => (bt s k).toNat).map fun d : Nat => (d : Int)) := by
      rw [← strOfNums_toList]
      simp [strN, ByteArray.toList_eq]
    rw [e1]
    unfold bytesOf
    apply List.ext_getElem
    · simp
    · intro i h1 h2
      have hi : i < s.size := by simpa using h1
      simp only [List.getElem_map, List.getElem_range, Int.toNat_natCast]
      have := get_bt s i hi
      rw [← this]
      simp
      rfl
  have h2 : (strN ((List.range s.size).map fun k => (bt s k).toNat)).data = s.data := Array.toList_inj.1 h
  cases s; cases hs : strN _ with
  | mk d => simp [hs] at h2; rw [h2]
/-- The string, where its bytes stand there. -/
def TSP (bs : List Nat) (s : ByteArray) : Prop := ∀ s0 rest, s0.size ≤ 32 → bs = strB s0 s0.size ++ (0 :: 0 :: rest) → s = s0
/-- The first bytes of a string. -/
def pre (s : ByteArray) (m : Nat) : List Nat := (List.range m).map fun k => (bt s k).toNat
theorem pre_len (s : ByteArray) (m : Nat) : (pre s m).length = m := by simp [pre]
theorem pre_succ (s : ByteArray) (m : Nat) : pre s (m + 1) = pre s m ++ [(bt s m).toNat] := by simp [pre, List.range_succ]
/-- How far a string has been read. -/
def TPr (bs : List Nat) (i : Nat) (xs : List Nat) : Prop := ∀ s0 rest, s0.size ≤ 32 → bs = strB s0 s0.size ++ (0 :: 0 :: rest) → ∃ m, m ≤ s0.size ∧ i = (strB s0 m).length ∧ xs = pre s0 m
theorem tp_start (bs : List Nat) : TPr bs 0 [] := fun _ _ _ _ => ⟨0, Nat.zero_le _, rfl, rfl⟩
theorem strB_split (s : ByteArray) (m n : Nat) (h : m ≤ n) : ∃ t, strB s n = strB s m ++ t := by
  induction n with
  | zero => exact ⟨[], by have : m = 0 := by omega
                          subst this; simp⟩
  | succ n ih =>
    by_cases e : m = n + 1
    · subst e; exact ⟨[], by simp⟩
    · obtain ⟨t, ht⟩ := ih (by omega)
      by_cases hz : bt s n = 0
      · exact ⟨t ++ [0, 255], by rw [strB_zero s n hz, ht, List.append_assoc]⟩
      · exact ⟨t ++ [(bt s n).toNat], by rw [strB_other s n hz, ht, List.append_assoc]⟩
/-- What stands at the place where m bytes have been read. -/
theorem str_at {bs rest : List Nat} {s0 : ByteArray} {m : Nat} (he : bs = strB s0 s0.size ++ (0 :: 0 :: rest)) (hm : m ≤ s0.size) :
    (m < s0.size ∧ bt s0 m = 0 ∧ bs[(strB s0 m).length]? = some 0 ∧ bs[(strB s0 m).length + 1]? = some 255 ∧ (strB s0 (m + 1)).length = (strB s0 m).length + 2)
    ∨ (m < s0.size ∧ bt s0 m ≠ 0 ∧ bs[(strB s0 m).length]? = some (bt s0 m).toNat ∧ (strB s0 (m + 1)).length = (strB s0 m).length + 1)
    ∨ (m = s0.size ∧ bs[(strB s0 m).length]? = some 0 ∧ bs[(strB s0 m).length + 1]? = some 0) := by
  by_cases h : m < s0.size
  · obtain ⟨t, ht⟩ := strB_split s0 (m + 1) s0.size h
    by_cases hz : bt s0 m = 0
    · refine .inl ⟨h, hz, ?_, ?_, by rw [strB_zero s0 m hz]; simp⟩
      · rw [he, ht, strB_zero s0 m hz]; simp
      · rw [he, ht, strB_zero s0 m hz]; simp
    · refine .inr (.inl ⟨h, hz, ?_, by rw [strB_other s0 m hz]; simp⟩)
      rw [he, ht, strB_other s0 m hz]; simp
  · have e : m = s0.size := by omega
    subst e
    refine .inr (.inr ⟨rfl, ?_, ?_⟩)
    · rw [he]; simp
    · rw [he]; simp
theorem tp_other {bs : List Nat} {i d : Nat} {xs : List Nat} (h : TPr bs i xs) (hd : bs[i]? = some d) (h0 : d ≠ 0) : TPr bs (i + 1) (xs ++ [d]) := by
  intro s0 rest hs he
  obtain ⟨m, hm, rfl, rfl⟩ := h s0 rest hs he
  rcases str_at he hm with ⟨_, _, h1, _⟩ | ⟨hlt, hz, h1, h2⟩ | ⟨_, h1, _⟩
  · rw [hd] at h1; cases h1; exact absurd rfl h0
  · rw [hd] at h1; cases h1
    exact ⟨m + 1, hlt, h2.symm, (pre_succ s0 m).symm⟩
  · rw [hd] at h1; cases h1; exact absurd rfl h0
theorem tp_zero {bs : List Nat} {i d : Nat} {xs : List Nat} (h : TPr bs i xs) (hd : bs[i]? = some 0) (hd1 : bs[i + 1]? = some d) (h0 : d ≠ 0) : TPr bs (i + 2) (xs ++ [0]) := by
  intro s0 rest hs he
  obtain ⟨m, hm, rfl, rfl⟩ := h s0 rest hs he
  rcases str_at he hm with ⟨hlt, hz, h1, _, h2⟩ | ⟨hlt, hz, h1, _⟩ | ⟨_, h1, h2⟩
  · exact ⟨m + 1, hlt, h2.symm, by rw [pre_succ, hz]; rfl⟩
  · rw [hd] at h1
    have := bt_nonneg s0 m
    have h3 := Option.some.inj h1
    omega
  · rw [hd1] at h2; cases h2; exact absurd rfl h0
theorem tp_break {bs : List Nat} {i : Nat} {xs : List Nat} (h : TPr bs i xs) (hd : bs[i]? = some 0) (hd1 : bs[i + 1]? ≠ some 255) : TSP bs (strN xs) := by
  intro s0 rest hs he
  obtain ⟨m, hm, rfl, rfl⟩ := h s0 rest hs he
  rcases str_at he hm with ⟨_, _, _, h1, _⟩ | ⟨_, hz, h1, _⟩ | ⟨rfl, _, _⟩
  · exact absurd h1 hd1
  · rw [hd] at h1
    have := bt_nonneg s0 m
    have h3 := Option.some.inj h1
    omega
  · exact strN_back s0
theorem tp_end {bs : List Nat} {i : Nat} {xs : List Nat} (h : TPr bs i xs) (hd : bs.length ≤ i ∨ 32 ≤ xs.length) : TSP bs (strN xs) := by
  intro s0 rest hs he
  obtain ⟨m, hm, rfl, rfl⟩ := h s0 rest hs he
  rcases hd with hd | hd
  · exfalso
    obtain ⟨t, ht⟩ := strB_split s0 m s0.size hm
    rw [he, ht] at hd
    simp at hd
    omega
  · rw [pre_len] at hd
    have e : m = s0.size := by omega
    subst e
    exact strN_back s0
end Go.Proofs.YtdiikofgilplkaaDoor
