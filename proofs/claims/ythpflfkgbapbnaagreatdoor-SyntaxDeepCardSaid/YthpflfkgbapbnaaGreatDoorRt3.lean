/- The document's digits. -/
import Derived.Test.YthpflfkgbapbnaaGreatDoorBk1
import Derived.Test.YthpflfkgbapbnaaGreatDoorProd
import Derived.Test.YthpflfkgbapbnaaGreatDoorRefValid
import Derived.Test.YthpflfkgbapbnaaGreatDoorOkK
namespace Go.Proofs.YthpflfkgbapbnaaGreatDoor
section
section
open Go.RowKit Go.Lib Go.Shelf

theorem hide {p : Prop} (h : p) : Hid p := h
theorem strU_add (a b : List UInt8) : strU a ++ strU b = strU (a ++ b) := by
  have : (strU a ++ strU b).data = (strU (a ++ b)).data := by simp [strU]
  cases h1 : strU a ++ strU b with
  | mk d => rw [h1] at this; cases h2 : strU (a ++ b) with | mk e => rw [h2] at this; simpa using this
theorem rstrU_size (a : List UInt8) : (strU a).size = a.length := by simp [strU, ByteArray.size]
theorem add_U (a b : List UInt8) (h : a.length + b.length ≤ 9223372036854775807) (W : World) : (Op.stringOp .add (strU a) (strU b)).run Tryz.prog W = .ok (.string (strU (a ++ b))) W := by
  rw [run_string_add_sum W _ _ (by rw [rstrU_size, rstrU_size]; exact h), strU_add]
theorem conv_1 (w : World) (x : UInt8) (z : Int) (hz : z = (x.toNat : Int)) : (convert 68 9 (.slice (some ⟨w.heap.size, 0, none⟩) 1 1)).run Tryz.prog (w.alloc (.cells #[.int .u8 z] 5)) = .ok (.string (strU [x])) (w.alloc (.cells #[.int .u8 z] 5)) := by
  subst hz
  refine run_convert_bytes_back _ 68 9 5 ⟨w.heap.size, 0, none⟩ 1 [x] Tryz.underlying68 Tryz.underlying5 Tryz.underlying9 (fun j hj => ?_)
  match j, hj with
  | 0, _ => simp [Addr.add]
theorem conv_2d (w : World) (x y : UInt8) : (convert 68 9 (.slice (some ⟨w.heap.size, 0, none⟩) 2 2)).run Tryz.prog (w.alloc (.cells #[.int .u8 x.toNat, .int .u8 y.toNat] 5)).drew = .ok (.string (strU [x, y])) (w.alloc (.cells #[.int .u8 x.toNat, .int .u8 y.toNat] 5)).drew := by
  refine run_convert_bytes_back _ 68 9 5 ⟨w.heap.size, 0, none⟩ 2 [x, y] Tryz.underlying68 Tryz.underlying5 Tryz.underlying9 (fun j hj => ?_)
  match j, hj with
  | 0, _ => simp [Addr.add]
  | 1, _ => simp [Addr.add]
theorem dec_cons (u : Nat) (l : List UInt8) (_ : u ≠ 0) : decDigits u ++ l = (if u / 10 = 0 then [] else decDigits (u / 10)) ++ (UInt8.ofNat (48 + u % 10) :: l) := by
  rw [decDigits]
  by_cases h1 : u < 10
  · rw [dif_pos h1, if_pos (by omega), Nat.mod_eq_of_lt h1]; rfl
  · rw [dif_neg h1, if_neg (by omega), List.append_assoc]; rfl
theorem dig_all : ∀ d : Fin 16, (({ data := #[48, 49, 50, 51, 52, 53, 54, 55, 56, 57, 97, 98, 99, 100, 101, 102] } : ByteArray)[d.val]'(by have := d.2; exact this)).toNat = (hx d.val).toNat := by decide
theorem dig_at (z : Int) (d : Nat) (hz : z = d) (hd : d < 16) {hb : z.toNat < ({ data := #[48, 49, 50, 51, 52, 53, 54, 55, 56, 57, 97, 98, 99, 100, 101, 102] } : ByteArray).size} : (({ data := #[48, 49, 50, 51, 52, 53, 54, 55, 56, 57, 97, 98, 99, 100, 101, 102] } : ByteArray)[z.toNat]'hb).toNat = (hx d).toNat := by
  subst hz
  simp only [Int.toNat_natCast]
  exact dig_all ⟨d, hd⟩
theorem esc1_lo (c : Nat) (hc : c < 32) (h : c ≠ 10 ∧ c ≠ 9 ∧ c ≠ 13) : esc1 (UInt8.ofNat c) = [92, 120, hx (c / 16), hx (c % 16)] := by
  have ht : (UInt8.ofNat c).toNat = c := by rw [UInt8.toNat_ofNat', Nat.mod_eq_of_lt (by omega)]
  have hn : ∀ d : UInt8, c ≠ d.toNat → ¬ UInt8.ofNat c = d := fun d hd e => hd (by rw [← e, ht])
  unfold esc1
  rw [if_neg (hn 92 (show c ≠ 92 by omega)), if_neg (hn 39 (show c ≠ 39 by omega)), if_neg (hn 10 h.1), if_neg (hn 9 h.2.1), if_neg (hn 13 h.2.2), if_pos (.inl (by rw [ht]; exact hc)), ht]
theorem esc1_plain (c : Nat) (hc : c < 256) (h : ¬ c < 32 ∧ c ≠ 92 ∧ c ≠ 39 ∧ c ≠ 127) : esc1 (UInt8.ofNat c) = [UInt8.ofNat c] := by
  have ht : (UInt8.ofNat c).toNat = c := by rw [UInt8.toNat_ofNat', Nat.mod_eq_of_lt hc]
  have hn : ∀ d : UInt8, c ≠ d.toNat → ¬ UInt8.ofNat c = d := fun d hd e => hd (by rw [← e, ht])
  unfold esc1
  rw [if_neg (hn 92 h.2.1), if_neg (hn 39 h.2.2.1), if_neg (hn 10 (show c ≠ 10 by omega)), if_neg (hn 9 (show c ≠ 9 by omega)), if_neg (hn 13 (show c ≠ 13 by omega)), if_neg (fun x => x.elim (fun y => h.1 (by rw [ht] at y; exact y)) (hn 127 h.2.2.2))]
end
open Go.RowKit Go.Lib Go.Shelf

theorem rnDig_len (u : Nat) : (decDigits u).length ≤ u + 1 := by
  induction u using Nat.strongRecOn with
  | _ u ih =>
    rw [decDigits]
    by_cases h : u < 10
    · rw [dif_pos h]; simp
    · rw [dif_neg h, List.length_append]
      have := ih (u / 10) (by omega)
      simp
      omega
/-- A number's letters are few: 20 at most. -/
theorem rdecD_len : ∀ (k u : Nat), u < 10 ^ (k + 1) → (decDigits u).length ≤ k + 1
  | 0, u, h => by rw [decDigits, dif_pos (by omega)]; simp
  | k + 1, u, h => by
    rw [decDigits]
    by_cases h1 : u < 10
    · rw [dif_pos h1]; simp
    · rw [dif_neg h1, List.length_append]
      have := rdecD_len k (u / 10) (by rw [Nat.pow_succ] at h; omega)
      simp
      omega
theorem ritoa_len (n : Int) (h : R64 n) : (itoa n).length ≤ 21 := by
  unfold R64 at h
  unfold itoa
  split
  · have := rdecD_len 19 n.natAbs (by omega)
    simp
    omega
  · have := rdecD_len 19 n.toNat (by omega)
    omega
theorem resc1_len (c : UInt8) : (esc1 c).length ≤ 4 := by unfold esc1; (repeat' split) <;> simp
theorem rescS_len : ∀ l : List UInt8, (escS l).length ≤ 4 * l.length
  | [] => by simp [escS]
  | c :: l => by
    have := rescS_len l
    have h1 := resc1_len c
    simp only [escS, List.flatMap_cons, List.length_append, List.length_cons] at this ⊢
    omega
end
open Go.RowKit Go.Lib Go.Shelf

def isD (c : UInt8) : Bool := decide (48 ≤ c.toNat ∧ c.toNat ≤ 57)
/-- A number beyond the range is 0. -/
def cl (x : Int) : Int := if -9223372036854775808 ≤ x ∧ x ≤ 9223372036854775807 then x else 0
theorem cl_I64 (x : Int) : I64 (cl x) := by unfold cl I64; split <;> omega
theorem cl_id {x : Int} (h : I64 x) : cl x = x := by unfold cl I64 at *; rw [if_pos h]
def rstp (n : Int) (c : UInt8) : Int := cl (cl (n * 10) + -((c.toNat : Int) - 48))
theorem rstp_I64 (l : List UInt8) : ∀ n, I64 n → I64 (l.foldl rstp n) := by
  induction l with
  | nil => exact fun n h => h
  | cons c l ih => exact fun n _ => ih _ (cl_I64 _)
def sgn (l : List UInt8) : Bool × Nat := match l with | [] => (false, 0) | c :: _ => if c.toNat = 45 then (true, 1) else if c.toNat = 43 then (false, 1) else (false, 0)
def dgs (l : List UInt8) : List UInt8 := (l.drop (sgn l).2).takeWhile isD
def dgN (l : List UInt8) : Int := if (sgn l).1 then (dgs l).foldl rstp 0 else cl (-((dgs l).foldl rstp 0))
def dgL (l : List UInt8) : Nat := (sgn l).2 + (dgs l).length
theorem dgN_R (l : List UInt8) : R64 (dgN l) := by
  unfold dgN
  split
  · exact rstp_I64 _ 0 (by unfold I64; omega)
  · exact cl_I64 _
theorem tw_lt {p : UInt8 → Bool} : ∀ (l : List UInt8) (k : Nat), k < (l.takeWhile p).length → ∃ c, l[k]? = some c ∧ p c = true ∧ (l.takeWhile p)[k]? = some c
  | [], k, h => by simp at h
  | c :: l, k, h => by
    cases hp : p c with
    | false => rw [List.takeWhile_cons, hp] at h; simp at h
    | true =>
      rw [List.takeWhile_cons, hp] at h ⊢
      cases k with
      | zero => exact ⟨c, rfl, hp, rfl⟩
      | succ k =>
        obtain ⟨d, h1, h2, h3⟩ := tw_lt l k (by simp at h; exact h)
        exact ⟨d, by simpa using h1, h2, by simpa using h3⟩
theorem tw_end {p : UInt8 → Bool} : ∀ (l : List UInt8) (c : UInt8), l[(l.takeWhile p).length]? = some c → p c = false
  | [], c, h => by simp at h
  | d :: l, c, h => by
    cases hp : p d with
    | false => rw [List.takeWhile_cons, hp] at h; simp at h; rw [← h]; exact hp
    | true =>
      rw [List.takeWhile_cons, hp] at h
      exact tw_end l c (by simpa using h)
theorem tw_len {p : UInt8 → Bool} : ∀ (l : List UInt8), (l.takeWhile p).length ≤ l.length
  | [] => by simp
  | d :: l => by
    have := tw_len (p := p) l
    rw [List.takeWhile_cons]
    split
    · simp; omega
    · simp
theorem tw_app {p : UInt8 → Bool} : ∀ (l r : List UInt8), (∀ c ∈ l, p c = true) → (∀ c t, r = c :: t → p c = false) → (l ++ r).takeWhile p = l
  | [], r, _, hr => by
    cases r with
    | nil => rfl
    | cons c t => rw [List.nil_append, List.takeWhile_cons, hr c t rfl]; rfl
  | c :: l, r, hl, hr => by
    rw [List.cons_append, List.takeWhile_cons, hl c (by simp)]
    simp only [if_true]
    rw [tw_app l r (fun d hd => hl d (by simp [hd])) hr]
theorem fold_dec (u : Nat) (hu : u ≤ 9223372036854775808) : (decDigits u).foldl rstp 0 = -(u : Int) := by
  induction u using Nat.strongRecOn with
  | _ u ih =>
    rw [decDigits]
    by_cases h : u < 10
    · rw [dif_pos h]
      simp only [List.foldl_cons, List.foldl_nil, rstp]
      rw [dig_nat u h, Int.zero_mul, cl_id (x := 0) (by unfold I64; omega), cl_id (by unfold I64; omega)]
      omega
    · rw [dif_neg h, List.foldl_append, ih (u / 10) (by omega) (by omega)]
      simp only [List.foldl_cons, List.foldl_nil, rstp]
      rw [dig_nat _ (by omega), cl_id (x := -((u / 10 : Nat) : Int) * 10) (by unfold I64; omega), cl_id (by unfold I64; omega)]
      omega
theorem dec_isD (u : Nat) : ∀ c ∈ decDigits u, isD c = true := fun c hc => by
  have := decD_digit u c hc
  simp [isD, this]
theorem dg_dec (u : Nat) (r : List UInt8) (hr : ∀ c t, r = c :: t → isD c = false) : sgn (decDigits u ++ r) = (false, 0) ∧ dgs (decDigits u ++ r) = decDigits u := by
  have hs : sgn (decDigits u ++ r) = (false, 0) := by
    cases h : decDigits u with
    | nil => exact absurd h (decD_ne u)
    | cons c t =>
      have := decD_digit u c (by rw [h]; simp)
      simp only [List.cons_append, sgn]
      rw [if_neg (by omega), if_neg (by omega)]
  refine ⟨hs, ?_⟩
  unfold dgs
  rw [hs]
  exact tw_app _ _ (dec_isD u) hr
theorem dg_itoa (m : Int) (hm : R64 m) (r : List UInt8) (hr : ∀ c t, r = c :: t → isD c = false) : dgN (itoa m ++ r) = m ∧ dgL (itoa m ++ r) = (itoa m).length := by
  unfold R64 at hm
  unfold itoa
  by_cases h : m < 0
  · rw [if_pos h]
    have hs : sgn (45 :: decDigits m.natAbs ++ r) = (true, 1) := rfl
    have hd : dgs (45 :: decDigits m.natAbs ++ r) = decDigits m.natAbs := by
      unfold dgs
      rw [hs]
      exact tw_app _ _ (dec_isD _) hr
    unfold dgN dgL
    rw [hs, hd, fold_dec _ (by omega)]
    refine ⟨?_, by simp; omega⟩
    simp only [if_true]
    omega
  · rw [if_neg h]
    obtain ⟨hs, hd⟩ := dg_dec m.toNat r hr
    unfold dgN dgL
    rw [hs, hd, fold_dec _ (by omega)]
    refine ⟨?_, by simp⟩
    simp only [Bool.false_eq_true, if_false]
    rw [cl_id (by unfold I64; omega)]
    omega
theorem dg_plus (m : Int) (hm : R64 m) (h0 : ¬ m < 0) (r : List UInt8) (hr : ∀ c t, r = c :: t → isD c = false) : dgN (43 :: itoa m ++ r) = m := by
  unfold R64 at hm
  unfold itoa
  rw [if_neg h0]
  have hs : sgn (43 :: decDigits m.toNat ++ r) = (false, 1) := rfl
  have hd : dgs (43 :: decDigits m.toNat ++ r) = decDigits m.toNat := by
    unfold dgs
    rw [hs]
    exact tw_app _ _ (dec_isD _) hr
  unfold dgN
  rw [hs, hd, fold_dec _ (by omega)]
  simp only [Bool.false_eq_true, if_false]
  rw [cl_id (by unfold I64; omega)]
  omega
theorem u_get (u : ByteArray) (k : Nat) (hk : k < u.size) : u.data.toList[k]? = some u[k] := by simp [ByteArray.getElem_eq_getElem_data, hk]
theorem u_some {u : ByteArray} {k : Nat} {c : UInt8} (h : u.data.toList[k]? = some c) : ∃ hk : k < u.size, u[k] = c := by
  obtain ⟨h1, h2⟩ := List.getElem?_eq_some_iff.1 h
  have hk : k < u.size := by rw [Array.length_toList] at h1; exact h1
  exact ⟨hk, by have := u_get u k hk; rw [h] at this; exact (Option.some.inj this).symm⟩
end Go.Proofs.YthpflfkgbapbnaaGreatDoor
