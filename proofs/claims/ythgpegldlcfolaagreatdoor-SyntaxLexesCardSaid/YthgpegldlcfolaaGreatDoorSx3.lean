/- Tokens: words and marks. -/
import Derived.Test.YthgpegldlcfolaaGreatDoorBase
import Derived.Lib.Bytealg
import Derived.Test.YthgpegldlcfolaaGreatDoorShX1
import Derived.Test.YthgpegldlcfolaaGreatDoorShB3
import Derived.Shelf.Small.Strs
import Derived.Shelf.Strings.Prefix
import Derived.Test.YthgpegldlcfolaaGreatDoorBk1
import Derived.ChangeKeysEq
import Derived.Deep.MidRow
import Derived.Deep.RegionHeld3
namespace Go.Proofs.YthgpegldlcfolaaGreatDoor
section
section
section
open Go.RowKit

theorem xh {p : Prop} (h : p) : Hid p := h
def xA (c : UInt8) : Bool := decide (97 ≤ c.toNat ∧ c.toNat ≤ 122)
def xD (c : UInt8) : Bool := decide (48 ≤ c.toNat ∧ c.toNat ≤ 57)
def xW (c : UInt8) : Bool := xA c || xD c
def xB (c : UInt8) : Bool := decide (c.toNat = 32 ∨ c.toNat = 9 ∨ c.toNat = 10 ∨ c.toNat = 13)
def sl1 (r : List UInt8) : Bool := match r with | d :: _ => decide (d.toNat = 47) | [] => false
/-- How many bytes are blanks and comments; true: in a comment. -/
def skN : Bool → List UInt8 → Nat
  | _, [] => 0
  | true, c :: r => if c.toNat = 10 then 1 + skN false r else 1 + skN true r
  | false, c :: r => if xB c then 1 + skN false r else if c.toNat = 47 ∧ sl1 r = true then 1 + skN true r else 0
theorem skN_nil (b : Bool) : skN b [] = 0 := by cases b <;> rfl
theorem skN_len (l : List UInt8) : ∀ b, skN b l ≤ l.length := by
  induction l with
  | nil => intro b; rw [skN_nil]; exact Nat.le_refl _
  | cons c r ih =>
    intro b
    have h1 := ih true
    have h2 := ih false
    cases b
    · simp only [skN, List.length_cons]
      split
      · omega
      · split <;> omega
    · simp only [skN, List.length_cons]
      split <;> omega
def skp (l : List UInt8) (i : Nat) : Nat := i + skN false (l.drop i)
def skc (l : List UInt8) (i : Nat) : Nat := i + skN true (l.drop i)
theorem drop_at {l : List UInt8} {i : Nat} {c : UInt8} (h : l[i]? = some c) : l.drop i = c :: l.drop (i + 1) := by
  obtain ⟨h1, h2⟩ := List.getElem?_eq_some_iff.1 h
  rw [List.drop_eq_getElem_cons h1, h2]
theorem skp_end {l : List UInt8} {i : Nat} (h : l.length ≤ i) : skp l i = i := by
  unfold skp; rw [List.drop_of_length_le h, skN_nil]; rfl
theorem skc_end {l : List UInt8} {i : Nat} (h : l.length ≤ i) : skc l i = skp l i := by
  rw [skp_end h]; unfold skc; rw [List.drop_of_length_le h, skN_nil]; rfl
theorem skp_le (l : List UInt8) (i : Nat) (h : i ≤ l.length) : i ≤ skp l i ∧ skp l i ≤ l.length := by
  have := skN_len (l.drop i) false
  rw [List.length_drop] at this
  unfold skp; omega
theorem skp_blank {l : List UInt8} {i : Nat} {c : UInt8} (h : l[i]? = some c) (hb : xB c = true) : skp l i = skp l (i + 1) := by
  unfold skp; rw [drop_at h]; simp only [skN, hb, if_true]; omega
theorem skp_com {l : List UInt8} {i : Nat} {c d : UInt8} (h : l[i]? = some c) (hc : c.toNat = 47) (h2 : l[i + 1]? = some d) (hd : d.toNat = 47) : skp l i = skc l i := by
  have hb : xB c = false := by simp [xB, hc]
  have hs : sl1 (l.drop (i + 1)) = true := by rw [drop_at h2]; simp [sl1, hd]
  unfold skp skc; rw [drop_at h]
  simp only [skN, hb, hc, hs]
  simp
theorem skp_stop {l : List UInt8} {i : Nat} {c : UInt8} (h : l[i]? = some c) (hb : xB c = false) (hn : ¬ (c.toNat = 47 ∧ sl1 (l.drop (i + 1)) = true)) : skp l i = i := by
  unfold skp; rw [drop_at h]; simp only [skN, hb]
  rw [if_neg (by decide), if_neg hn]; rfl
theorem skc_lf {l : List UInt8} {i : Nat} {c : UInt8} (h : l[i]? = some c) (hc : c.toNat = 10) : skc l i = skp l i := by
  have hb : xB c = true := by simp [xB, hc]
  unfold skp skc; rw [drop_at h]; simp only [skN, hb, hc, if_true]
theorem skc_on {l : List UInt8} {i : Nat} {c : UInt8} (h : l[i]? = some c) (hc : ¬ c.toNat = 10) : skc l i = skc l (i + 1) := by
  unfold skc; rw [drop_at h]; simp only [skN]; rw [if_neg hc]; omega
theorem sl1_at {l : List UInt8} {i : Nat} (h : sl1 (l.drop i) = true) : ∃ d, l[i]? = some d ∧ d.toNat = 47 := by
  cases hd : l[i]? with
  | none =>
    rw [List.drop_of_length_le (List.getElem?_eq_none_iff.1 hd)] at h
    simp [sl1] at h
  | some d =>
    rw [drop_at hd] at h
    exact ⟨d, rfl, by simpa [sl1] using h⟩
/-- The next line feed. -/
theorem idx_sk (r : List UInt8) : (Lib.indexByte r 10 < 0 → skN true r = r.length) ∧ (∀ n : Nat, Lib.indexByte r 10 = (n : Int) → n < r.length ∧ skN true r = n + skN false (r.drop n)) := by
  induction r with
  | nil => exact ⟨fun _ => rfl, fun n h => by simp [Lib.indexByte] at h⟩
  | cons c r ih =>
    by_cases hc : c = 10
    · subst hc
      refine ⟨fun h => ?_, fun n h => ?_⟩
      · simp [Lib.indexByte] at h
      · have : n = 0 := by simp [Lib.indexByte] at h; omega
        subst this
        exact ⟨by simp, by simp [skN, xB]⟩
    · have hc' : ¬ c.toNat = 10 := fun e => hc (UInt8.toNat_inj.1 e)
      have hg := Lib.indexByte_ge r 10
      have hi : Lib.indexByte (c :: r) 10 = if Lib.indexByte r 10 == -1 then -1 else Lib.indexByte r 10 + 1 := by
        simp [Lib.indexByte, hc]
      rw [hi]
      by_cases h1 : Lib.indexByte r 10 = -1
      · refine ⟨fun _ => ?_, fun n h => ?_⟩
        · have := ih.1 (by omega)
          simp only [skN, List.length_cons]; rw [if_neg hc', this]; omega
        · rw [h1] at h; simp at h
      · rw [if_neg (by simpa using h1)]
        refine ⟨fun h => by omega, fun n h => ?_⟩
        obtain ⟨m, rfl⟩ : ∃ m, n = m + 1 := ⟨n - 1, by omega⟩
        obtain ⟨h2, h3⟩ := ih.2 m (by omega)
        refine ⟨by simp; omega, ?_⟩
        simp only [skN, List.drop_succ_cons]; rw [if_neg hc', h3]; omega
theorem skc_none {l : List UInt8} {i : Nat} (hi : i ≤ l.length) (h : Lib.indexByte (l.drop i) 10 < 0) : skc l i = skp l l.length := by
  rw [skp_end (Nat.le_refl _)]
  unfold skc; rw [(idx_sk _).1 h, List.length_drop]; omega
theorem skc_some {l : List UInt8} {i n : Nat} (h : Lib.indexByte (l.drop i) 10 = (n : Int)) : i + n < l.length ∧ skc l i = skp l (i + n) := by
  obtain ⟨h1, h2⟩ := (idx_sk _).2 n h
  rw [List.length_drop] at h1
  refine ⟨by omega, ?_⟩
  unfold skc skp; rw [h2, List.drop_drop]; omega
theorem ib_blank (c : UInt8) : (0 ≤ Lib.indexByte [32, 9, 10, 13] c) ↔ xB c = true := by
  have e : ∀ d : UInt8, (d == c) = decide (c.toNat = d.toNat) := fun d => by
    rw [Bool.eq_iff_iff]; simp; exact ⟨fun h => by rw [h], fun h => UInt8.toNat_inj.1 h.symm⟩
  simp only [Lib.indexByte, e, xB]
  have k1 : (32 : UInt8).toNat = 32 := rfl
  have k2 : (9 : UInt8).toNat = 9 := rfl
  have k3 : (10 : UInt8).toNat = 10 := rfl
  have k4 : (13 : UInt8).toNat = 13 := rfl
  rw [k1, k2, k3, k4]
  by_cases h1 : c.toNat = 32
  · simp [h1]
  · by_cases h2 : c.toNat = 9
    · simp [h2]
    · by_cases h3 : c.toNat = 10
      · simp [h3]
      · by_cases h4 : c.toNat = 13
        · simp [h4]
        · simp [h1, h2, h3, h4]

/-- A run of bytes of one kind. -/
def spn (p : UInt8 → Bool) (r : List UInt8) : Nat := (r.takeWhile p).length
theorem spn_lt {p : UInt8 → Bool} : ∀ (l : List UInt8) (k : Nat), k < spn p l → ∃ c, l[k]? = some c ∧ p c = true
  | [], k, h => by simp [spn] at h
  | c :: l, k, h => by
    unfold spn at h
    cases hp : p c with
    | false => rw [List.takeWhile_cons, hp] at h; simp at h
    | true =>
      rw [List.takeWhile_cons, hp] at h
      cases k with
      | zero => exact ⟨c, rfl, hp⟩
      | succ k =>
        obtain ⟨d, h1, h2⟩ := spn_lt (p := p) l k (by simp at h; exact h)
        exact ⟨d, by simpa using h1, h2⟩
theorem spn_end {p : UInt8 → Bool} : ∀ (l : List UInt8) (c : UInt8), l[spn p l]? = some c → p c = false
  | [], c, h => by simp at h
  | d :: l, c, h => by
    unfold spn at h
    cases hp : p d with
    | false => rw [List.takeWhile_cons, hp] at h; simp at h; rw [← h]; exact hp
    | true =>
      rw [List.takeWhile_cons, hp] at h
      exact spn_end l c (by simpa [spn] using h)
theorem spn_len {p : UInt8 → Bool} : ∀ (l : List UInt8), spn p l ≤ l.length
  | [] => by simp [spn]
  | d :: l => by
    have := spn_len (p := p) l
    unfold spn at this ⊢
    rw [List.takeWhile_cons]
    split
    · simp; omega
    · simp
theorem spn_cons {p : UInt8 → Bool} {c : UInt8} (r : List UInt8) (h : p c = true) : 1 ≤ spn p (c :: r) := by
  unfold spn; rw [List.takeWhile_cons, h]; simp
theorem spn_take {p : UInt8 → Bool} : ∀ (l : List UInt8), l.take (spn p l) = l.takeWhile p
  | [] => by simp [spn]
  | d :: l => by
    have := spn_take (p := p) l
    unfold spn at this ⊢
    rw [List.takeWhile_cons]
    split
    · simp [this]
    · simp

/-- The number that digits spell. -/
def decN (r : List UInt8) : Nat := r.foldl (fun a c => a * 10 + (c.toNat - 48)) 0
def wdL : List (List UInt8) := [[109, 97, 116, 99, 104], [111, 112, 116, 105, 111, 110, 97, 108], [119, 104, 101, 114, 101], [99, 114, 101, 97, 116, 101], [109, 101, 114, 103, 101], [115, 101, 116], [114, 101, 109, 111, 118, 101], [100, 101, 108, 101, 116, 101], [100, 101, 116, 97, 99, 104], [97, 98, 111, 114, 116], [119, 105, 116, 104], [114, 101, 116, 117, 114, 110], [100, 105, 115, 116, 105, 110, 99, 116], [97, 115], [111, 114, 100, 101, 114], [98, 121], [97, 115, 99], [100, 101, 115, 99], [115, 107, 105, 112], [108, 105, 109, 105, 116], [97, 110, 100], [111, 114], [120, 111, 114], [110, 111, 116], [105, 115], [110, 117, 108, 108], [116, 114, 117, 101], [102, 97, 108, 115, 101], [105, 110], [115, 116, 97, 114, 116, 115], [101, 110, 100, 115], [99, 111, 110, 116, 97, 105, 110, 115], [99, 97, 115, 101], [119, 104, 101, 110], [116, 104, 101, 110], [101, 108, 115, 101], [101, 110, 100]]
def wdB (t : List UInt8) : Bool := wdL.any fun x => x == t
def mk1 (c : UInt8) : Bool := [40, 41, 91, 93, 123, 125, 44, 59, 58, 46, 42, 43, 45, 47, 37, 61, 60, 62].any fun (x : Nat) => x == c.toNat
def mk2 (r : List UInt8) : Bool := match r with
  | c :: d :: _ => decide ((c.toNat = 46 ∧ d.toNat = 46) ∨ (c.toNat = 60 ∧ (d.toNat = 62 ∨ d.toNat = 61)) ∨ (c.toNat = 62 ∧ d.toNat = 61))
  | _ => false
/-- Behind the closing quote: how many bytes. -/
def qE : List UInt8 → Option Nat
  | [] => none
  | [c] => if c.toNat = 39 then some 1 else none
  | c :: d :: r => if c.toNat = 39 then some 1 else if c.toNat = 92 then (qE r).map (· + 2) else (qE (d :: r)).map (· + 1)
def imB (r : List UInt8) : Bool := (r[spn xD r]?.any fun c => decide (c.toNat = 105)) && !(r[spn xD r + 1]?.any xW)
inductive TkV where
  | bad (c : Int) (o : Nat)
  | tok (k : Int) (t : ByteArray) (m : Nat)
def sU (l : List UInt8) : ByteArray := ⟨l.toArray⟩
theorem sU_list (l : List UInt8) : (sU l).data.toList = l := by simp [sU]
theorem sU_ext (u : ByteArray) (i n : Nat) : u.extract i (i + n) = sU ((u.data.toList.drop i).take n) := by
  apply ByteArray.ext
  rw [ByteArray.data_extract]
  apply Array.ext'
  rw [Array.toList_extract, sU_list, List.extract_eq_take_drop]
  congr 1
  omega
def nmT (r : List UInt8) : TkV := if 8 < spn xW r then .bad 102 0 else .tok (if wdB (r.take (spn xW r)) then 2 else 1) (sU (r.take (spn xW r))) (spn xW r)
def nuT (r : List UInt8) : TkV :=
  if imB r then (if 33554432 < decN (r.take (spn xD r)) then .bad 102 0 else .tok 4 (sU (r.take (spn xD r + 1))) (spn xD r + 1))
  else if 9223372036854775808 < decN (r.take (spn xD r)) then .bad 102 0
  else if r[spn xD r]?.any xA then .bad 100 (spn xD r) else .tok 3 (sU (r.take (spn xD r))) (spn xD r)
def mkT (c : UInt8) (r : List UInt8) : TkV := if mk1 c then .tok 6 (sU (r.take (if mk2 r then 2 else 1))) (if mk2 r then 2 else 1) else .bad 100 0
def tkN (c : UInt8) (r : List UInt8) : TkV := if xA c then nmT r else if xD c then nuT r else mkT c r
def sqT (m : Nat) (o : Option ByteArray) : TkV := match o with | none => .bad 100 0 | some s => .tok 5 s (m + 1)
/-- What stands at the beginning of a text; Q: what the reading of a string's literal answers. -/
def Tk (Q : List UInt8 → Option ByteArray → Prop) : List UInt8 → TkV → Prop
  | [], _ => False
  | c :: r, x => if c.toNat = 39 then (match qE r with | none => x = .bad 100 0 | some m => ∃ o, Q (c :: r.take m) o ∧ x = sqT m o) else x = tkN c (c :: r)
theorem qE_len : ∀ (n : Nat) (r : List UInt8) (m : Nat), r.length ≤ n → qE r = some m → 1 ≤ m ∧ m ≤ r.length
  | _, [], m, _, h => by simp [qE] at h
  | _, [c], m, _, h => by
    simp only [qE] at h
    split at h
    · cases h; simp
    · cases h
  | 0, c :: d :: r, m, hn, _ => by simp at hn
  | n + 1, c :: d :: r, m, hn, h => by
    simp only [qE] at h
    simp only [List.length_cons] at hn
    split at h
    · cases h; simp
    · split at h
      · cases hq : qE r with
        | none => rw [hq] at h; cases h
        | some k =>
          rw [hq] at h
          cases h
          have := qE_len n r k (by omega) hq
          simp; omega
      · cases hq : qE (d :: r) with
        | none => rw [hq] at h; cases h
        | some k =>
          rw [hq] at h
          cases h
          have := qE_len n (d :: r) k (by simp; omega) hq
          simp at this ⊢; omega
theorem any_some {o : Option UInt8} {p : UInt8 → Bool} (h : o.any p = true) : ∃ c, o = some c ∧ p c = true := by
  cases o with
  | none => cases h
  | some c => exact ⟨c, rfl, h⟩
theorem nm_len {c : UInt8} {r : List UInt8} {k : Int} {t : ByteArray} {m : Nat} (hc : xA c = true) (h : nmT (c :: r) = .tok k t m) : 1 ≤ m ∧ m ≤ (c :: r).length ∧ k ≠ 7 := by
  unfold nmT at h
  split at h
  · cases h
  · cases h
    exact ⟨spn_cons r (by simp [xW, hc]), spn_len _, by split <;> decide⟩
theorem nu_len {c : UInt8} {r : List UInt8} {k : Int} {t : ByteArray} {m : Nat} (hc : xD c = true) (h : nuT (c :: r) = .tok k t m) : 1 ≤ m ∧ m ≤ (c :: r).length ∧ k ≠ 7 := by
  have h1 := spn_cons r hc
  have h2 := spn_len (p := xD) (c :: r)
  unfold nuT at h
  split at h
  · rename_i hi
    split at h
    · cases h
    · cases h
      unfold imB at hi
      rw [Bool.and_eq_true] at hi
      obtain ⟨d, hd, -⟩ := any_some hi.1
      have := (List.getElem?_eq_some_iff.1 hd).1
      exact ⟨by omega, by omega, by decide⟩
  · split at h
    · cases h
    · split at h
      · cases h
      · cases h
        exact ⟨h1, h2, by decide⟩
theorem mk2_len {r : List UInt8} (h : mk2 r = true) : 2 ≤ r.length := by
  match r, h with
  | [], h => cases h
  | [c], h => cases h
  | c :: d :: t, _ => simp
theorem mk_len {c : UInt8} {r : List UInt8} {k : Int} {t : ByteArray} {m : Nat} (h : mkT c (c :: r) = .tok k t m) : 1 ≤ m ∧ m ≤ (c :: r).length ∧ k ≠ 7 := by
  unfold mkT at h
  split at h
  · cases h
    refine ⟨by split <;> omega, ?_, by decide⟩
    split
    · rename_i hm; exact mk2_len hm
    · simp
  · cases h
theorem tk_len {Q : List UInt8 → Option ByteArray → Prop} {r : List UInt8} {k : Int} {t : ByteArray} {m : Nat} (h : Tk Q r (.tok k t m)) : 1 ≤ m ∧ m ≤ r.length ∧ k ≠ 7 := by
  cases r with
  | nil => exact h.elim
  | cons c r =>
    simp only [Tk] at h
    split at h
    · cases hq : qE r with
      | none => rw [hq] at h; cases h
      | some n =>
        rw [hq] at h
        obtain ⟨o, -, h⟩ := h
        have := qE_len _ r n (Nat.le_refl _) hq
        cases o with
        | none => cases h
        | some s => cases h; exact ⟨by omega, by simp; omega, by decide⟩
    · unfold tkN at h
      split at h
      · rename_i hc; exact nm_len hc h.symm
      · split at h
        · rename_i hc; exact nu_len hc h.symm
        · exact mk_len h.symm
/-- The tokens of a text, from a place on. -/
structure Tok where
  k : Int
  t : ByteArray
  p : Nat
inductive Out where
  | bad (c : Int) (p : Nat)
  | ok (l : List Tok)
def Out.app (d : List Tok) : Out → Out
  | .bad c p => .bad c p
  | .ok l => .ok (d ++ l)
inductive Lx (Q : List UInt8 → Option ByteArray → Prop) (l : List UInt8) : Nat → Out → Prop where
  | bad {j o : Nat} {c : Int} : Tk Q (l.drop j) (.bad c o) → Lx Q l j (.bad c (j + o))
  | fin {j : Nat} : l.length ≤ j → Lx Q l j (.ok [⟨7, ⟨#[]⟩, j⟩])
  | step {j m : Nat} {k : Int} {t : ByteArray} {o : Out} : Tk Q (l.drop j) (.tok k t m) → Lx Q l (skp l (j + m)) o → Lx Q l j (o.app [⟨k, t, j⟩])
theorem Out.app_app (d e : List Tok) (o : Out) : (o.app e).app d = o.app (d ++ e) := by
  cases o with
  | bad => rfl
  | ok l => simp [Out.app]
theorem Out.app_nil (o : Out) : o.app [] = o := by cases o <;> rfl
theorem tk_one {Q R : List UInt8 → Option ByteArray → Prop} (hQ : ∀ t a b, Q t a → R t b → a = b) {r : List UInt8} {x y : TkV} (h1 : Tk Q r x) (h2 : Tk R r y) : x = y := by
  cases r with
  | nil => exact h1.elim
  | cons c r =>
    simp only [Tk] at h1 h2
    split at h1
    · rename_i hc
      rw [if_pos hc] at h2
      cases hq : qE r with
      | none => rw [hq] at h1 h2; exact h1.trans h2.symm
      | some m =>
        rw [hq] at h1 h2
        obtain ⟨a, ha, rfl⟩ := h1
        obtain ⟨b, hb, rfl⟩ := h2
        rw [hQ _ a b ha hb]
    · rename_i hc
      rw [if_neg hc] at h2
      exact h1.trans h2.symm
theorem tk_end {Q : List UInt8 → Option ByteArray → Prop} {l : List UInt8} {j : Nat} {x : TkV} (h : l.length ≤ j) (h1 : Tk Q (l.drop j) x) : False := by
  rw [List.drop_of_length_le h] at h1; exact h1
theorem lx_one {Q R : List UInt8 → Option ByteArray → Prop} (hQ : ∀ t a b, Q t a → R t b → a = b) {l : List UInt8} {j : Nat} {a b : Out} (h1 : Lx Q l j a) (h2 : Lx R l j b) : a = b := by
  induction h1 generalizing b with
  | bad h =>
    cases h2 with
    | bad g => cases tk_one hQ h g; rfl
    | fin g => exact (tk_end g h).elim
    | step g _ => cases tk_one hQ h g
  | fin h =>
    cases h2 with
    | bad g => exact (tk_end h g).elim
    | fin g => rfl
    | step g _ => exact (tk_end h g).elim
  | step h _ ih =>
    cases h2 with
    | bad g => cases tk_one hQ h g
    | fin g => exact (tk_end g h).elim
    | step g g2 => cases tk_one hQ h g; rw [ih g2]
end
open Go.RowKit

theorem x_get (u : ByteArray) (k : Nat) (hk : k < u.size) : u.data.toList[k]? = some u[k] := by simp [ByteArray.getElem_eq_getElem_data, hk]
theorem x_some {u : ByteArray} {k : Nat} {c : UInt8} (h : u.data.toList[k]? = some c) : ∃ hk : k < u.size, u[k] = c := by
  obtain ⟨h1, h2⟩ := List.getElem?_eq_some_iff.1 h
  have hk : k < u.size := by rw [Array.length_toList] at h1; exact h1
  exact ⟨hk, by have := x_get u k hk; rw [h] at this; exact (Option.some.inj this).symm⟩
theorem x_len (u : ByteArray) : u.data.toList.length = u.size := by rw [Array.length_toList]; rfl
theorem x_ext (u : ByteArray) (i n m : Nat) (h : m = i + n) : u.extract i m = sU ((u.data.toList.drop i).take n) := by rw [h]; exact sU_ext u i n
set_option maxRecDepth 100000 in
set_option maxHeartbeats 1000000 in
theorem isL (c : UInt8) (w : World) : Calls Tryz.prog 20 #[.int .u8 (c.toNat : Int)] w fun e w' => e = .returned (.bool (xA c)) ∧ w' = w := by
  have hr : xA c = (decide (97 ≤ c.toNat) && decide (c.toNat ≤ 122)) := by unfold xA; exact Bool.decide_and _ _
  have HR := xh hr
  clear hr
  by_cases h1 : 97 ≤ c.toNat
  · have i1 : (97 : Int) ≤ (c.toNat : Int) := by omega
    by_cases h2 : c.toNat ≤ 122
    · have i2 : (c.toNat : Int) ≤ 122 := by omega
      go_enter Tryz.func20, Tryz.ntmps20
      go_wp2
      go_ret
      exact ⟨by rw [HR.out]; simp [h1, h2], rfl⟩
    · have i2 : ¬ (c.toNat : Int) ≤ 122 := by omega
      go_enter Tryz.func20, Tryz.ntmps20
      go_wp2
      go_ret
      exact ⟨by rw [HR.out]; simp [h1, h2], rfl⟩
  · have i1 : ¬ (97 : Int) ≤ (c.toNat : Int) := by omega
    go_enter Tryz.func20, Tryz.ntmps20
    go_wp2
    go_ret
    exact ⟨by rw [HR.out]; simp [h1], rfl⟩
set_option maxRecDepth 100000 in
set_option maxHeartbeats 1000000 in
theorem isDg (c : UInt8) (w : World) : Calls Tryz.prog 18 #[.int .u8 (c.toNat : Int)] w fun e w' => e = .returned (.bool (xD c)) ∧ w' = w := by
  have hr : xD c = (decide (48 ≤ c.toNat) && decide (c.toNat ≤ 57)) := by unfold xD; exact Bool.decide_and _ _
  have HR := xh hr
  clear hr
  by_cases h1 : 48 ≤ c.toNat
  · have i1 : (48 : Int) ≤ (c.toNat : Int) := by omega
    by_cases h2 : c.toNat ≤ 57
    · have i2 : (c.toNat : Int) ≤ 57 := by omega
      go_enter Tryz.func18, Tryz.ntmps18
      go_wp2
      go_ret
      exact ⟨by rw [HR.out]; simp [h1, h2], rfl⟩
    · have i2 : ¬ (c.toNat : Int) ≤ 57 := by omega
      go_enter Tryz.func18, Tryz.ntmps18
      go_wp2
      go_ret
      exact ⟨by rw [HR.out]; simp [h1, h2], rfl⟩
  · have i1 : ¬ (48 : Int) ≤ (c.toNat : Int) := by omega
    go_enter Tryz.func18, Tryz.ntmps18
    go_wp2
    go_ret
    exact ⟨by rw [HR.out]; simp [h1], rfl⟩
set_option maxRecDepth 100000 in
set_option maxHeartbeats 1000000 in
theorem rL (c : UInt8) (w : World) : Calls Tryz.prog 23 #[.int .u8 (c.toNat : Int)] w fun e w' => e = .returned (.bool (xA c)) ∧ w' = w := by
  have hr : xA c = (decide (97 ≤ c.toNat) && decide (c.toNat ≤ 122)) := by unfold xA; exact Bool.decide_and _ _
  have HR := xh hr
  clear hr
  by_cases h1 : 97 ≤ c.toNat
  · have i1 : (97 : Int) ≤ (c.toNat : Int) := by omega
    by_cases h2 : c.toNat ≤ 122
    · have i2 : (c.toNat : Int) ≤ 122 := by omega
      go_enter Tryz.func23, Tryz.ntmps23
      go_wp2
      go_ret
      exact ⟨by rw [HR.out]; simp [h1, h2], rfl⟩
    · have i2 : ¬ (c.toNat : Int) ≤ 122 := by omega
      go_enter Tryz.func23, Tryz.ntmps23
      go_wp2
      go_ret
      exact ⟨by rw [HR.out]; simp [h1, h2], rfl⟩
  · have i1 : ¬ (97 : Int) ≤ (c.toNat : Int) := by omega
    go_enter Tryz.func23, Tryz.ntmps23
    go_wp2
    go_ret
    exact ⟨by rw [HR.out]; simp [h1], rfl⟩
set_option maxRecDepth 100000 in
set_option maxHeartbeats 1000000 in
theorem rDg (c : UInt8) (w : World) : Calls Tryz.prog 25 #[.int .u8 (c.toNat : Int)] w fun e w' => e = .returned (.bool (xD c)) ∧ w' = w := by
  have hr : xD c = (decide (48 ≤ c.toNat) && decide (c.toNat ≤ 57)) := by unfold xD; exact Bool.decide_and _ _
  have HR := xh hr
  clear hr
  by_cases h1 : 48 ≤ c.toNat
  · have i1 : (48 : Int) ≤ (c.toNat : Int) := by omega
    by_cases h2 : c.toNat ≤ 57
    · have i2 : (c.toNat : Int) ≤ 57 := by omega
      go_enter Tryz.func25, Tryz.ntmps25
      go_wp2
      go_ret
      exact ⟨by rw [HR.out]; simp [h1, h2], rfl⟩
    · have i2 : ¬ (c.toNat : Int) ≤ 57 := by omega
      go_enter Tryz.func25, Tryz.ntmps25
      go_wp2
      go_ret
      exact ⟨by rw [HR.out]; simp [h1, h2], rfl⟩
  · have i1 : ¬ (48 : Int) ≤ (c.toNat : Int) := by omega
    go_enter Tryz.func25, Tryz.ntmps25
    go_wp2
    go_ret
    exact ⟨by rw [HR.out]; simp [h1], rfl⟩
set_option maxRecDepth 100000 in
set_option maxHeartbeats 1000000 in
theorem isLD (c : UInt8) (w : World) : Calls Tryz.prog 16 #[.int .u8 (c.toNat : Int)] w fun e w' => e = .returned (.bool (xW c)) ∧ w' = w := by
  have H1 := xh (isL c)
  have H2 := xh (isDg c)
  have HW : Hid (xW c = (xA c || xD c)) := rfl
  cases h1 : xA c <;> cases h2 : xD c
  all_goals
    rw [h1] at H1 HW
    rw [h2] at H2 HW
    go_enter Tryz.func16, Tryz.ntmps16
    go_wp2_with (first | (go_at_call 20; refine (H1.out _).mono ?_; rintro e w1 ⟨rfl, rfl⟩) | (go_at_call 18; refine (H2.out _).mono ?_; rintro e w1 ⟨rfl, rfl⟩))
    go_ret
    exact ⟨by rw [HW.out]; rfl, rfl⟩
set_option maxRecDepth 100000 in
set_option maxHeartbeats 1000000 in
theorem run_W (u : ByteArray) (hs : u.size ≤ 4611686018427387904) (i : Nat) (hi : i ≤ u.size) (w : World) : Calls Tryz.prog 15 #[.string u, .int .i64 i, .func (.func 16) #[] #[]] w fun e w' => e = .returned (.int .i64 ((i + spn xW (u.data.toList.drop i) : Nat) : Int)) ∧ w' = w := by
  have hll := x_len u
  obtain ⟨n, hn⟩ : ∃ n, n = spn xW (u.data.toList.drop i) := ⟨_, rfl⟩
  have hnl := spn_len (p := xW) (u.data.toList.drop i)
  rw [← hn, List.length_drop, hll] at hnl
  have HLT : Hid (∀ k, k < n → ∃ c, u.data.toList[i + k]? = some c ∧ xW c = true) := fun k hk => by
    obtain ⟨c, h1, h2⟩ := spn_lt (p := xW) (u.data.toList.drop i) k (by rw [← hn]; exact hk)
    rw [List.getElem?_drop] at h1
    exact ⟨c, h1, h2⟩
  have HEN : Hid (∀ c, u.data.toList[i + n]? = some c → xW c = false) := fun c hc => by
    refine spn_end (p := xW) (u.data.toList.drop i) c ?_
    rw [← hn, List.getElem?_drop]
    exact hc
  rw [← hn]
  clear hn
  have HC := xh isLD
  go_enter Tryz.func15, Tryz.ntmps15
  go_wp2_with fail
  go_loopw [1] (fun p W => ∃ k : Nat, k ≤ n ∧ p = .int .i64 ((i + k : Nat) : Int) ∧ W = w) (fun p _ => u.size - (RowKit.intOf p).toNat)
  case atStart => exact ⟨0, by omega, rfl, rfl⟩
  case round =>
    obtain ⟨k, hk, rfl, rfl⟩ := hrel
    by_cases hlt : k < n
    · obtain ⟨c, h1, h2⟩ := HLT.out k hlt
      obtain ⟨p, hp⟩ : ∃ p, p = i + k := ⟨_, rfl⟩
      have HP := xh hp
      rw [← hp] at h1 ⊢
      obtain ⟨hps, hpc⟩ := x_some h1
      have hpI : (p : Int) < (u.size : Int) := by omega
      have HCC := xh (HC.out u[p])
      rw [hpc, h2, ← hpc] at HCC
      clear h1 h2 hp hpc
      go_wp2_with (first | (go_at_call 16; refine (HCC.out _).mono ?_; rintro e w1 ⟨rfl, rfl⟩) | fail)
      go_roundw
      case rel => exact ⟨k + 1, by omega, by rw [show i + (k + 1) = p + 1 from by rw [HP.out]; omega]; go_num, by first | trivial | rfl⟩
      case measure => simp [RowKit.intOf]; omega
    · obtain rfl : k = n := by omega
      obtain ⟨p, hp⟩ : ∃ p, p = i + k := ⟨_, rfl⟩
      have HEN' := HEN.out
      rw [← hp] at HEN' ⊢
      have HE2 := xh HEN'
      have HP := xh hp
      have hdl : p ≤ u.size := by omega
      clear HEN' HEN HLT hp
      by_cases hpe : p = u.size
      · subst hpe
        go_wp2
        go_ret
        exact ⟨by rw [← HP.out]; rfl, rfl⟩
      · have hps : p < u.size := by omega
        have hpI : (p : Int) < (u.size : Int) := by omega
        have hnd := HE2.out u[p] (x_get u p hps)
        have HCC := xh (HC.out u[p])
        rw [hnd] at HCC
        go_wp2_with (first | (go_at_call 16; refine (HCC.out _).mono ?_; rintro e w1 ⟨rfl, rfl⟩) | fail)
        go_ret
        exact ⟨by rw [← HP.out]; rfl, rfl⟩
set_option maxRecDepth 100000 in
set_option maxHeartbeats 1000000 in
theorem run_D (u : ByteArray) (hs : u.size ≤ 4611686018427387904) (i : Nat) (hi : i ≤ u.size) (w : World) : Calls Tryz.prog 15 #[.string u, .int .i64 i, .func (.func 18) #[] #[]] w fun e w' => e = .returned (.int .i64 ((i + spn xD (u.data.toList.drop i) : Nat) : Int)) ∧ w' = w := by
  have hll := x_len u
  obtain ⟨n, hn⟩ : ∃ n, n = spn xD (u.data.toList.drop i) := ⟨_, rfl⟩
  have hnl := spn_len (p := xD) (u.data.toList.drop i)
  rw [← hn, List.length_drop, hll] at hnl
  have HLT : Hid (∀ k, k < n → ∃ c, u.data.toList[i + k]? = some c ∧ xD c = true) := fun k hk => by
    obtain ⟨c, h1, h2⟩ := spn_lt (p := xD) (u.data.toList.drop i) k (by rw [← hn]; exact hk)
    rw [List.getElem?_drop] at h1
    exact ⟨c, h1, h2⟩
  have HEN : Hid (∀ c, u.data.toList[i + n]? = some c → xD c = false) := fun c hc => by
    refine spn_end (p := xD) (u.data.toList.drop i) c ?_
    rw [← hn, List.getElem?_drop]
    exact hc
  rw [← hn]
  clear hn
  have HC := xh isDg
  go_enter Tryz.func15, Tryz.ntmps15
  go_wp2_with fail
  go_loopw [1] (fun p W => ∃ k : Nat, k ≤ n ∧ p = .int .i64 ((i + k : Nat) : Int) ∧ W = w) (fun p _ => u.size - (RowKit.intOf p).toNat)
  case atStart => exact ⟨0, by omega, rfl, rfl⟩
  case round =>
    obtain ⟨k, hk, rfl, rfl⟩ := hrel
    by_cases hlt : k < n
    · obtain ⟨c, h1, h2⟩ := HLT.out k hlt
      obtain ⟨p, hp⟩ : ∃ p, p = i + k := ⟨_, rfl⟩
      have HP := xh hp
      rw [← hp] at h1 ⊢
      obtain ⟨hps, hpc⟩ := x_some h1
      have hpI : (p : Int) < (u.size : Int) := by omega
      have HCC := xh (HC.out u[p])
      rw [hpc, h2, ← hpc] at HCC
      clear h1 h2 hp hpc
      go_wp2_with (first | (go_at_call 18; refine (HCC.out _).mono ?_; rintro e w1 ⟨rfl, rfl⟩) | fail)
      go_roundw
      case rel => exact ⟨k + 1, by omega, by rw [show i + (k + 1) = p + 1 from by rw [HP.out]; omega]; go_num, by first | trivial | rfl⟩
      case measure => simp [RowKit.intOf]; omega
    · obtain rfl : k = n := by omega
      obtain ⟨p, hp⟩ : ∃ p, p = i + k := ⟨_, rfl⟩
      have HEN' := HEN.out
      rw [← hp] at HEN' ⊢
      have HE2 := xh HEN'
      have HP := xh hp
      have hdl : p ≤ u.size := by omega
      clear HEN' HEN HLT hp
      by_cases hpe : p = u.size
      · subst hpe
        go_wp2
        go_ret
        exact ⟨by rw [← HP.out]; rfl, rfl⟩
      · have hps : p < u.size := by omega
        have hpI : (p : Int) < (u.size : Int) := by omega
        have hnd := HE2.out u[p] (x_get u p hps)
        have HCC := xh (HC.out u[p])
        rw [hnd] at HCC
        go_wp2_with (first | (go_at_call 18; refine (HCC.out _).mono ?_; rintro e w1 ⟨rfl, rfl⟩) | fail)
        go_ret
        exact ⟨by rw [← HP.out]; rfl, rfl⟩
theorem u8_back (c : UInt8) : ((c.toNat : Int)).toNat.toUInt8 = c := by rw [Int.toNat_natCast]; simp
theorem ibB (c : UInt8) (w : World) : Calls Tryz.prog 11 #[.string ⟨#[32, 9, 10, 13]⟩, .int .u8 (c.toNat : Int)] w fun e w' => (∃ x : Int, e = .returned (.int .i64 x) ∧ (0 ≤ x ↔ xB c = true)) ∧ w' = w := by
  refine (Any.strings_IndexByte Tryz.laysIndexByte ⟨#[32, 9, 10, 13]⟩ (c.toNat : Int) w).mono ?_
  rintro e w' ⟨he, hw⟩
  refine ⟨⟨_, he, ?_⟩, hw⟩
  rw [u8_back]
  exact ib_blank c
theorem ibL (u : ByteArray) (w : World) : Calls Tryz.prog 11 #[.string u, .int .u8 10] w fun e w' => e = .returned (.int .i64 (Lib.indexByte u.data.toList 10)) ∧ w' = w :=
  Any.strings_IndexByte Tryz.laysIndexByte u 10 w
theorem hpX (u p : ByteArray) (w : World) : Calls Tryz.prog 12 #[.string u, .string p] w fun e w' => e = .returned (.bool (Lib.hasPrefix u.data.toList p.data.toList)) ∧ w' = w :=
  Any.strings_HasPrefix Tryz.laysHasPrefix u p w
end
open Go.RowKit

theorem x_tail (u : ByteArray) (i : Nat) : (u.extract i u.size).data.toList = u.data.toList.drop i := by
  rw [ByteArray.data_extract, Array.toList_extract, List.extract_eq_take_drop]
  apply List.take_of_length_le
  rw [List.length_drop, x_len]
  omega
theorem q_eq (c d : UInt8) : (d == c) = decide (c.toNat = d.toNat) := by
  rw [Bool.eq_iff_iff]; simp; exact ⟨fun h => by rw [h], fun h => UInt8.toNat_inj.1 h.symm⟩
theorem hp47 (c : UInt8) (t : List UInt8) : Lib.hasPrefix (c :: t) (⟨#[47, 47]⟩ : ByteArray).data.toList = (decide (c.toNat = 47) && sl1 t) := by
  cases t with
  | nil =>
    show ((47 : UInt8) == c && false) = _
    simp [sl1]
  | cons d t =>
    show ((47 : UInt8) == c && ((47 : UInt8) == d && true)) = _
    rw [q_eq, q_eq, Bool.and_true]
    rfl
set_option maxRecDepth 100000 in
set_option maxHeartbeats 1000000 in
theorem eol_any (u : ByteArray) (hs : u.size ≤ 4611686018427387904) (i : Nat) (hi : i ≤ u.size) (w : World) : Calls Tryz.prog 13 #[.string u, .int .i64 i] w fun e w' => (∃ m : Nat, e = .returned (.int .i64 m) ∧ m ≤ u.size ∧ skc u.data.toList i = skp u.data.toList m ∧ ((∃ c, u.data.toList[i]? = some c ∧ ¬ c.toNat = 10) → i < m)) ∧ w' = w := by
  have hiI : (i : Int) ≤ (u.size : Int) := by omega
  have HB := xh (ibL (u.extract i u.size))
  rw [x_tail] at HB
  have hll := x_len u
  rcases Int.lt_or_le (Lib.indexByte (u.data.toList.drop i) 10) 0 with hx | hx
  · have HN := xh (skc_none (l := u.data.toList) (i := i) (by omega) hx)
    generalize Lib.indexByte (u.data.toList.drop i) 10 = x at HB hx
    have hx2 : ¬ (0 : Int) ≤ x := by omega
    go_enter Tryz.func13, Tryz.ntmps13
    go_wp2_with (first | (go_at_call 11; refine (HB.out _).mono ?_; rintro e w1 ⟨rfl, rfl⟩) | fail)
    go_ret
    exact ⟨⟨u.size, rfl, Nat.le_refl _, by rw [HN.out, hll], fun ⟨c, hc, _⟩ => by
      have := (List.getElem?_eq_some_iff.1 hc).1
      omega⟩, rfl⟩
  · obtain ⟨n, hn⟩ := Int.eq_ofNat_of_zero_le hx
    obtain ⟨h1, h2⟩ := skc_some (l := u.data.toList) (i := i) hn
    have HN := xh h2
    have HP : Hid ((∃ c, u.data.toList[i]? = some c ∧ ¬ c.toNat = 10) → i < i + n) := fun ⟨c, hc, h10⟩ => by
      rcases Nat.eq_zero_or_pos n with h0 | h0
      · exfalso
        subst h0
        rw [drop_at hc] at hn
        have hne : ¬ c = 10 := fun e => h10 (by rw [e]; rfl)
        have hg := Lib.indexByte_ge (List.drop (i + 1) u.data.toList) 10
        simp [Lib.indexByte, hne] at hn
        split at hn <;> omega
      · omega
    rw [hn] at HB
    rw [hll] at h1
    clear hx hn h2
    go_enter Tryz.func13, Tryz.ntmps13
    go_wp2_with (first | (go_at_call 11; refine (HB.out _).mono ?_; rintro e w1 ⟨rfl, rfl⟩) | fail)
    go_ret
    exact ⟨⟨i + n, by first | rfl | (congr 2; go_num), by omega, HN.out, HP.out⟩, rfl⟩
set_option maxRecDepth 100000 in
set_option maxHeartbeats 1000000 in
theorem ab_any (u : ByteArray) (hs : u.size ≤ 4611686018427387904) (i : Nat) (hi : i ≤ u.size) (w : World) : Calls Tryz.prog 7 #[.string u, .int .i64 i] w fun e w' => e = .returned (.int .i64 (skp u.data.toList i : Nat)) ∧ w' = w := by
  have hll := x_len u
  obtain ⟨E, hE⟩ : ∃ E, E = skp u.data.toList i := ⟨_, rfl⟩
  rw [← hE]
  have HE := xh hE
  clear hE
  go_enter Tryz.func7, Tryz.ntmps7
  go_wp2_with fail
  go_loopw [1] (fun p W => ∃ k : Nat, k ≤ u.size ∧ p = .int .i64 (k : Int) ∧ E = skp u.data.toList k ∧ W = w) (fun p _ => u.size - (RowKit.intOf p).toNat)
  case atStart => exact ⟨i, hi, rfl, HE.out, rfl⟩
  case round =>
    obtain ⟨k, hk, rfl, hkE, rfl⟩ := hrel
    have HK := xh hkE
    clear hkE HE
    by_cases hlt : k < u.size
    · have hltI : (k : Int) < (u.size : Int) := by omega
      have hleI : (k : Int) ≤ (u.size : Int) := by omega
      have HGT := xh (x_get u k hlt)
      have HB1 := xh (ibB u[k])
      cases hb : xB u[k] with
      | true =>
        rw [hb] at HB1
        go_wp2_with (first | (go_at_call 11; refine (HB1.out _).mono ?_; rintro e w1 ⟨⟨x, rfl, hx⟩, rfl⟩; have hx0 : (0 : Int) ≤ x := hx.2 rfl; clear hx) | fail)
        go_roundw
        case rel => exact ⟨k + 1, by omega, by go_num, by rw [HK.out]; exact skp_blank HGT.out hb, by first | trivial | rfl⟩
        case measure => simp [RowKit.intOf]; omega
      | false =>
        rw [hb] at HB1
        have HPX := xh (hpX (u.extract k u.size) ⟨#[47, 47]⟩)
        rw [x_tail] at HPX
        have hpd : Lib.hasPrefix (u.data.toList.drop k) (⟨#[47, 47]⟩ : ByteArray).data.toList = (decide (u[k].toNat = 47) && sl1 (u.data.toList.drop (k + 1))) := by
          rw [drop_at HGT.out]
          exact hp47 _ _
        rw [hpd] at HPX
        clear hpd
        cases hcm : (decide (u[k].toNat = 47) && sl1 (u.data.toList.drop (k + 1))) with
        | true =>
          rw [hcm] at HPX
          rw [Bool.and_eq_true] at hcm
          have h47 : u[k].toNat = 47 := of_decide_eq_true hcm.1
          obtain ⟨d, hd1, hd2⟩ := sl1_at hcm.2
          have HCM := xh (skp_com HGT.out h47 hd1 hd2)
          have HEL := xh (eol_any u hs k hk)
          have H47 := xh h47
          clear hcm hd1 hd2 h47
          go_wp2_with (first | (go_at_call 11; refine (HB1.out _).mono ?_; rintro e w1 ⟨⟨x, rfl, hx⟩, rfl⟩; have hx0 : ¬ (0 : Int) ≤ x := fun h => (by simpa using hx.1 h); clear hx) | (go_at_call 12; refine (HPX.out _).mono ?_; rintro e w1 ⟨rfl, rfl⟩) | (go_at_call 13; refine (HEL.out _).mono ?_; rintro e w1 ⟨⟨m, rfl, hm1, hm2, hm3⟩, rfl⟩; have HM2 := xh hm2; have HM3 := xh hm3; clear hm2 hm3) | fail)
          have hlm : k < m := HM3.out ⟨_, HGT.out, by rw [H47.out]; decide⟩
          go_roundw
          case rel => exact ⟨m, hm1, rfl, by rw [HK.out, HCM.out, HM2.out], by first | trivial | rfl⟩
          case measure => simp [RowKit.intOf]; omega
        | false =>
          rw [hcm] at HPX
          have HST : Hid (E = k) := by
            have hq : E = k := HK.out.trans (skp_stop HGT.out hb (fun h => by rw [h.2] at hcm; simp [h.1] at hcm))
            exact hq
          clear hcm
          go_wp2_with (first | (go_at_call 11; refine (HB1.out _).mono ?_; rintro e w1 ⟨⟨x, rfl, hx⟩, rfl⟩; have hx0 : ¬ (0 : Int) ≤ x := fun h => (by simpa using hx.1 h); clear hx) | (go_at_call 12; refine (HPX.out _).mono ?_; rintro e w1 ⟨rfl, rfl⟩) | fail)
          go_ret
          exact ⟨by rw [HST.out]; rfl, rfl⟩
    · have hke : k = u.size := by omega
      have hltI : ¬ (k : Int) < (u.size : Int) := by omega
      have HST : Hid (E = k) := HK.out.trans (skp_end (by omega))
      clear hke
      go_wp2
      go_ret
      exact ⟨by rw [HST.out]; rfl, rfl⟩
/-- The byte at a place; 0 behind the end. -/
def bAt (l : List UInt8) (i : Nat) : UInt8 := (l[i]?).getD 0
theorem bAt_some {l : List UInt8} {i : Nat} {c : UInt8} (h : l[i]? = some c) : bAt l i = c := by unfold bAt; rw [h]; rfl
theorem bAt_none {l : List UInt8} {i : Nat} (h : l.length ≤ i) : bAt l i = 0 := by unfold bAt; rw [List.getElem?_eq_none_iff.2 h]; rfl
set_option maxRecDepth 100000 in
set_option maxHeartbeats 1000000 in
theorem rat_any (u : ByteArray) (i : Nat) (w : World) : Calls Tryz.prog 22 #[.string u, .int .i64 i] w fun e w' => e = .returned (.int .u8 ((bAt u.data.toList i).toNat : Int)) ∧ w' = w := by
  have hll := x_len u
  have h0 : ¬ (i : Int) < 0 := by omega
  by_cases hlt : i < u.size
  · have HB := xh (bAt_some (x_get u i hlt))
    have h1 : ¬ (u.size : Int) ≤ (i : Int) := by omega
    have h2 : (i : Int) < (u.size : Int) := by omega
    rw [HB.out]
    go_enter Tryz.func22, Tryz.ntmps22
    go_wp2
    go_ret
    exact ⟨rfl, rfl⟩
  · have HB := xh (bAt_none (l := u.data.toList) (i := i) (by omega))
    have h1 : (u.size : Int) ≤ (i : Int) := by omega
    rw [HB.out]
    go_enter Tryz.func22, Tryz.ntmps22
    go_wp2
    go_ret
    exact ⟨rfl, rfl⟩
set_option maxRecDepth 100000 in
set_option maxHeartbeats 1000000 in
theorem rsk_any (u : ByteArray) (hs : u.size ≤ 4611686018427387904) (i : Nat) (hi : i ≤ u.size) (w : World) : Calls Tryz.prog 9 #[.string u, .int .i64 i] w fun e w' => e = .returned (.int .i64 (skp u.data.toList i : Nat)) ∧ w' = w := by
  have hll := x_len u
  obtain ⟨E, hE⟩ : ∃ E, E = skp u.data.toList i := ⟨_, rfl⟩
  rw [← hE]
  have HE := xh hE
  clear hE
  go_enter Tryz.func9, Tryz.ntmps9
  go_wp2_with fail
  go_loopw [1] (fun p W => ∃ k : Nat, k ≤ u.size ∧ p = .int .i64 (k : Int) ∧ E = skp u.data.toList k ∧ W = w) (fun p _ => u.size - (RowKit.intOf p).toNat)
  case atStart => exact ⟨i, hi, rfl, HE.out, rfl⟩
  case round =>
    obtain ⟨k, hk, rfl, hkE, rfl⟩ := hrel
    have HK := xh hkE
    clear hkE HE
    by_cases hlt : k < u.size
    · have hltI : (k : Int) < (u.size : Int) := by omega
      have HGT := xh (x_get u k hlt)
      by_cases c1 : u[k].toNat = 32
      · have hcb : (u[k].toNat : Int) = 32 := by omega
        have HBX : Hid (xB u[k] = true) := by unfold Hid; simp [xB, c1]
        clear c1
        go_wp2
        go_roundw
        case rel => exact ⟨k + 1, by omega, by go_num, by rw [HK.out]; exact skp_blank HGT.out HBX.out, by first | trivial | rfl⟩
        case measure => simp [RowKit.intOf]; omega
      have k1 : ((u[k].toNat : Int) == 32) = false := beq_false_of_ne (by omega)
      by_cases c2 : u[k].toNat = 9
      · have hcb : (u[k].toNat : Int) = 9 := by omega
        have HBX : Hid (xB u[k] = true) := by unfold Hid; simp [xB, c2]
        clear c2 c1
        go_wp2
        go_roundw
        case rel => exact ⟨k + 1, by omega, by go_num, by rw [HK.out]; exact skp_blank HGT.out HBX.out, by first | trivial | rfl⟩
        case measure => simp [RowKit.intOf]; omega
      have k2 : ((u[k].toNat : Int) == 9) = false := beq_false_of_ne (by omega)
      by_cases c3 : u[k].toNat = 10
      · have hcb : (u[k].toNat : Int) = 10 := by omega
        have HBX : Hid (xB u[k] = true) := by unfold Hid; simp [xB, c3]
        clear c3 c2 c1
        go_wp2
        go_roundw
        case rel => exact ⟨k + 1, by omega, by go_num, by rw [HK.out]; exact skp_blank HGT.out HBX.out, by first | trivial | rfl⟩
        case measure => simp [RowKit.intOf]; omega
      have k3 : ((u[k].toNat : Int) == 10) = false := beq_false_of_ne (by omega)
      by_cases c4 : u[k].toNat = 13
      · have hcb : (u[k].toNat : Int) = 13 := by omega
        have HBX : Hid (xB u[k] = true) := by unfold Hid; simp [xB, c4]
        clear c4 c3 c2 c1
        go_wp2
        go_roundw
        case rel => exact ⟨k + 1, by omega, by go_num, by rw [HK.out]; exact skp_blank HGT.out HBX.out, by first | trivial | rfl⟩
        case measure => simp [RowKit.intOf]; omega
      have k4 : ((u[k].toNat : Int) == 13) = false := beq_false_of_ne (by omega)
      have HNB : Hid (xB u[k] = false) := by unfold Hid; simp [xB, c1, c2, c3, c4]
      clear c1 c2 c3 c4
      by_cases h47 : u[k].toNat = 47
      · have hcb : (u[k].toNat : Int) = 47 := by omega
        have HAT := xh (rat_any u (k + 1))
        by_cases hn : (bAt u.data.toList (k + 1)).toNat = 47
        · have hnI : ((bAt u.data.toList (k + 1)).toNat : Int) = 47 := by omega
          have HD : Hid (∃ d, u.data.toList[k + 1]? = some d ∧ d.toNat = 47) := by
            unfold Hid
            cases hd : u.data.toList[k + 1]? with
            | none => rw [bAt_none (List.getElem?_eq_none_iff.1 hd)] at hn; exact absurd hn (by decide)
            | some d => rw [bAt_some hd] at hn; exact ⟨d, rfl, hn⟩
          rw [hnI] at HAT
          have HCM : Hid (E = skc u.data.toList k) := by
            obtain ⟨d, hd1, hd2⟩ := HD.out
            exact HK.out.trans (skp_com HGT.out h47 hd1 hd2)
          clear hn hnI
          go_wp2_with (first | (go_at_call 22; refine (HAT.out _).mono ?_; rintro e w1 ⟨rfl, rfl⟩) | fail)
          go_loopw [1] (fun p W => ∃ m : Nat, k ≤ m ∧ m ≤ u.size ∧ p = .int .i64 (m : Int) ∧ E = skc u.data.toList m ∧ (m = k ∨ k < m) ∧ W = w1) (fun p _ => u.size - (RowKit.intOf p).toNat)
          case atStart => exact ⟨k, Nat.le_refl _, hk, rfl, HCM.out, .inl rfl, rfl⟩
          case round =>
            obtain ⟨m, hm1, hm2, rfl, hmE, hmk, rfl⟩ := hrel
            have HM := xh hmE
            have HMK := xh hmk
            clear hmE hmk
            by_cases hml : m < u.size
            · have hmlI : (m : Int) < (u.size : Int) := by omega
              have HGM := xh (x_get u m hml)
              by_cases hm10 : u[m].toNat = 10
              · have hmI : (u[m].toNat : Int) = 10 := by omega
                have hmB : ((u[m].toNat : Int) != 10) = false := by simp [hmI]
                have HMM : Hid (k < m) := by
                  rcases HMK.out with h | h
                  · exfalso; subst h; omega
                  · exact h
                go_wp2
                go_roundw
                case rel => exact ⟨m, hm2, rfl, by rw [HM.out]; exact skc_lf HGM.out hm10, by first | trivial | rfl⟩
                case measure => have := HMM.out; simp [RowKit.intOf]; omega
              · have hmB : ((u[m].toNat : Int) == 10) = false := beq_false_of_ne (by omega)
                have hmC : ((u[m].toNat : Int) != 10) = true := by simp [bne, hmB]
                go_wp2
                go_roundw
                case rel => exact ⟨m + 1, by omega, by omega, by go_num, by rw [HM.out]; exact skc_on HGM.out hm10, .inr (by omega), by first | trivial | rfl⟩
                case measure => simp [RowKit.intOf]; omega
            · have hmlI : ¬ (m : Int) < (u.size : Int) := by omega
              have HSE : Hid (E = skp u.data.toList m) := HM.out.trans (skc_end (by omega))
              go_wp2
              go_roundw
              case rel => exact ⟨m, hm2, rfl, HSE.out, by first | trivial | rfl⟩
              case measure => simp [RowKit.intOf]; omega
        · have hnB : (((bAt u.data.toList (k + 1)).toNat : Int) == 47) = false := beq_false_of_ne (by omega)
          have hnC : (((bAt u.data.toList (k + 1)).toNat : Int) != 47) = true := by simp [bne, hnB]
          have HST : Hid (E = k) := HK.out.trans (skp_stop HGT.out HNB.out (fun h => by
            obtain ⟨d, hd1, hd2⟩ := sl1_at h.2
            rw [bAt_some hd1] at hn
            exact hn hd2))
          clear hn
          generalize ((bAt u.data.toList (k + 1)).toNat : Int) = z at HAT hnB hnC
          go_wp2_with (first | (go_at_call 22; refine (HAT.out _).mono ?_; rintro e w1 ⟨rfl, rfl⟩) | fail)
          go_ret
          exact ⟨by rw [HST.out]; rfl, rfl⟩
      · have h47B : ((u[k].toNat : Int) == 47) = false := beq_false_of_ne (by omega)
        have h47C : ((u[k].toNat : Int) != 47) = true := by simp [bne, h47B]
        have HST : Hid (E = k) := HK.out.trans (skp_stop HGT.out HNB.out (fun h => h47 h.1))
        clear h47
        go_wp2
        go_ret
        exact ⟨by rw [HST.out]; rfl, rfl⟩
    · have hltI : ¬ (k : Int) < (u.size : Int) := by omega
      have HST : Hid (E = k) := HK.out.trans (skp_end (by omega))
      go_wp2
      go_ret
      exact ⟨by rw [HST.out]; rfl, rfl⟩
end
open Go.RowKit

theorem ix_str (t n k : Nat) (cs : Array Value) (s : ByteArray) (h : Tryz.prog.underlying t = some (.array n 9)) (hk : k < n) (hv : cs[k]? = some (.string s)) (w : World) : (Instr.index t (.agg cs) (.int .i64 (k : Int))).run Tryz.prog w = .ok (.string s) w := by
  have h1 : (0 : Int) ≤ (k : Int) ∧ (k : Int) < (n : Int) := by omega
  have hz : (sizeOf 9).run Tryz.prog w = .ok 1 w := by kernel_rfl
  simp only [Instr.index, asIntOf, Sem.run_bind, Sem.run_pure, Result.andThen_ok, run_underlying h, if_pos h1, hz]
  rw [Nat.mul_one, Int.toNat_natCast]
  exact run_part_plain _ (by kernel_rfl) hv
def mkL : List (List UInt8) := [[46, 46], [60, 62], [60, 61], [62, 61], [40], [41], [91], [93], [123], [125], [44], [59], [58], [46], [42], [43], [45], [47], [37], [61], [60], [62]]
def m1L : List Nat := [40, 41, 91, 93, 123, 125, 44, 59, 58, 46, 42, 43, 45, 47, 37, 61, 60, 62]
/-- The tables. -/
structure Lxe (w : World) : Prop where
  e : Env w
  sw : w.var? Tryz.prog "trellis/syntax.words" = some (wdL.map fun x => Value.string (sU x)).toArray
  sm : w.var? Tryz.prog "trellis/syntax.marks" = some (mkL.map fun x => Value.string (sU x)).toArray
  rw : w.var? Tryz.prog "trellis/trellisref10.words" = some (wdL.map fun x => Value.string (sU x)).toArray
  rm : w.var? Tryz.prog "trellis/trellisref10.marks1" = some (m1L.map fun (x : Nat) => Value.int .u8 (x : Int)).toArray
theorem Lxe.G {w w' : World} (h : Lxe w) (g : G w w') : Lxe w' := ⟨h.e.G g, var_G g h.sw, var_G g h.sm, var_G g h.rw, var_G g h.rm⟩
theorem tab_cell {w : World} {n : String} {b : Nat} {l : List Value} (hg : Tryz.prog.globalNamed n = some b) (h : w.var? Tryz.prog n = some l.toArray) (j : Nat) : w.cell? ⟨b, j, none⟩ = l[j]? := by
  have := World.var?_cell hg h j
  simpa using this
theorem s_eq (x : List UInt8) (u : ByteArray) : ((sU x).toList == u.toList) = (x == u.data.toList) := by
  rw [ByteArray.toList_eq, ByteArray.toList_eq, sU_list]
theorem wd_yes {l : List UInt8} {k : Nat} {x : List UInt8} (h : wdL[k]? = some x) (e : (x == l) = true) : wdB l = true := by
  unfold wdB
  rw [List.any_eq_true]
  exact ⟨x, List.mem_of_getElem? h, e⟩
theorem wd_no {l : List UInt8} (h : ∀ j x, j < 37 → wdL[j]? = some x → (x == l) = false) : wdB l = false := by
  unfold wdB
  rw [List.any_eq_false]
  intro x hx
  obtain ⟨j, hj⟩ := List.getElem?_of_mem hx
  have hl := (List.getElem?_eq_some_iff.1 hj).1
  rw [h j x hl hj]
  exact Bool.false_ne_true
theorem wd_at (k : Nat) (h : k < 37) : ∃ x, wdL[k]? = some x := ⟨_, List.getElem?_eq_getElem (show k < wdL.length from h)⟩
set_option maxRecDepth 100000 in
set_option maxHeartbeats 1000000 in
theorem iw_any (u : ByteArray) (w : World) (hE : Lxe w) : Calls Tryz.prog 17 #[.string u] w fun e w' => e = .returned (.bool (wdB u.data.toList)) ∧ w' = w := by
  obtain ⟨cs, hcs⟩ : ∃ cs, cs = wdL.map fun x => Value.string (sU x) := ⟨_, rfl⟩
  have hr : w.rangeAt 0 0 cs := fun j v hv => by rw [Nat.zero_add, tab_cell (by kernel_rfl) hE.sw j, ← hcs]; exact hv
  have hln : cs.length = 37 := by rw [hcs, List.length_map]; rfl
  have hi : (Tryz.prog.info? 49).map (·.size) = some cs.length := by rw [hln]; kernel_rfl
  have HIX : Hid (∀ (k : Nat) (x : List UInt8), wdL[k]? = some x → k < 37 → ∀ w, (Instr.index 49 (.agg cs.toArray) (.int .i64 (k : Int))).run Tryz.prog w = .ok (.string (sU x)) w) := fun k x hx hk w => ix_str 49 37 k _ _ (by kernel_rfl) hk (by rw [hcs]; simp [hx]) w
  clear hE hln hcs
  go_enter Tryz.func17, Tryz.ntmps17
  go_wp2_with (first | (refine wpList_load_mid rfl 49 _ rfl 0 0 rfl cs _ hr Tryz.underlying49 rfl hi ?_) | fail)
  generalize Value.agg cs.toArray = AG at HIX ⊢
  clear hr hi
  go_loopw [6] (fun p W => ∃ k : Nat, k ≤ 37 ∧ p = .int .i64 (k : Int) ∧ (∀ j x, j < k → wdL[j]? = some x → (x == u.data.toList) = false) ∧ W = w) (fun p _ => 37 - (RowKit.intOf p).toNat)
  case atStart => exact ⟨0, by omega, rfl, fun j _ h => absurd h (Nat.not_lt_zero j), rfl⟩
  case round =>
    obtain ⟨k, hk, rfl, hno, rfl⟩ := hrel
    have HNO := xh hno
    clear hno
    by_cases hlt : k < 37
    · have hltI : (k : Int) < 37 := by omega
      obtain ⟨x, hx⟩ := wd_at k hlt
      have hix := HIX.out k x hx hlt
      have HX := xh hx
      have hse := s_eq x u
      clear hx
      cases hb : (x == u.data.toList) with
      | true =>
        rw [hb] at hse
        have HB := xh (wd_yes HX.out hb)
        clear hb
        go_wp2
        go_ret
        exact ⟨by rw [HB.out]; rfl, rfl⟩
      | false =>
        rw [hb] at hse
        go_wp2
        go_roundw
        case rel => exact ⟨k + 1, by omega, by go_num, fun j y hj hy => (Nat.lt_succ_iff_lt_or_eq.1 hj).elim (fun h => HNO.out j y h hy) (fun h => by subst h; rw [HX.out] at hy; cases hy; exact hb), by first | trivial | rfl⟩
        case measure => simp [RowKit.intOf]; omega
    · obtain rfl : k = 37 := by omega
      have HB := xh (wd_no HNO.out)
      go_wp2
      go_ret
      exact ⟨by rw [HB.out]; rfl, rfl⟩
set_option maxRecDepth 100000 in
set_option maxHeartbeats 1000000 in
theorem rw_any (u : ByteArray) (w : World) (hE : Lxe w) : Calls Tryz.prog 37 #[.string u] w fun e w' => e = .returned (.bool (wdB u.data.toList)) ∧ w' = w := by
  have HC : Hid (∀ k x, wdL[k]? = some x → w.cell? ⟨3, k, none⟩ = some (.string (sU x))) := fun k x hx => by rw [tab_cell (by kernel_rfl) hE.rw k]; simp [hx]
  clear hE
  go_enter Tryz.func37, Tryz.ntmps37
  go_wp2_with fail
  go_loopw [3] (fun p W => ∃ k : Nat, k ≤ 37 ∧ p = .int .i64 (k : Int) ∧ (∀ j x, j < k → wdL[j]? = some x → (x == u.data.toList) = false) ∧ W = w) (fun p _ => 37 - (RowKit.intOf p).toNat)
  case atStart => exact ⟨0, by omega, rfl, fun j _ h => absurd h (Nat.not_lt_zero j), rfl⟩
  case round =>
    obtain ⟨k, hk, rfl, hno, rfl⟩ := hrel
    have HNO := xh hno
    clear hno
    by_cases hlt : k < 37
    · have hltI : (k : Int) < 37 := by omega
      obtain ⟨x, hx⟩ := wd_at k hlt
      have hc := HC.out k x hx
      have HX := xh hx
      have hse := s_eq x u
      clear hx
      cases hb : (x == u.data.toList) with
      | true =>
        rw [hb] at hse
        have HB := xh (wd_yes HX.out hb)
        clear hb
        go_wp2
        go_ret
        exact ⟨by rw [HB.out]; rfl, rfl⟩
      | false =>
        rw [hb] at hse
        go_wp2
        go_roundw
        case rel => exact ⟨k + 1, by omega, by go_num, fun j y hj hy => (Nat.lt_succ_iff_lt_or_eq.1 hj).elim (fun h => HNO.out j y h hy) (fun h => by subst h; rw [HX.out] at hy; cases hy; exact hb), by first | trivial | rfl⟩
        case measure => simp [RowKit.intOf]; omega
    · obtain rfl : k = 37 := by omega
      have HB := xh (wd_no HNO.out)
      go_wp2
      go_ret
      exact ⟨by rw [HB.out]; rfl, rfl⟩
/-- The kind of a mark that a text begins with. -/
def kmF (l : List UInt8) : Int := if mk2 l then 8 else if (match l with | [] => false | c :: _ => mk1 c) then 6 else 0
theorem pf_one (c : UInt8) (t : List UInt8) (d : UInt8) : Lib.hasPrefix (c :: t) [d] = decide (c.toNat = d.toNat) := by
  show ((d == c) && true) = _
  rw [q_eq, Bool.and_true]
theorem pf_two (c : UInt8) (t : List UInt8) (d e : UInt8) : Lib.hasPrefix (c :: t) [d, e] = (decide (c.toNat = d.toNat) && Lib.hasPrefix t [e]) := by
  show ((d == c) && _) = _
  rw [q_eq]; rfl
theorem pf_nil (e : UInt8) (t : List UInt8) : Lib.hasPrefix [] (e :: t) = false := rfl
theorem mk1_or (c : UInt8) (t : List UInt8) : mk1 c = (Lib.hasPrefix (c :: t) [40] || Lib.hasPrefix (c :: t) [41] || Lib.hasPrefix (c :: t) [91] || Lib.hasPrefix (c :: t) [93] || Lib.hasPrefix (c :: t) [123] || Lib.hasPrefix (c :: t) [125] || Lib.hasPrefix (c :: t) [44] || Lib.hasPrefix (c :: t) [59] || Lib.hasPrefix (c :: t) [58] || Lib.hasPrefix (c :: t) [46] || Lib.hasPrefix (c :: t) [42] || Lib.hasPrefix (c :: t) [43] || Lib.hasPrefix (c :: t) [45] || Lib.hasPrefix (c :: t) [47] || Lib.hasPrefix (c :: t) [37] || Lib.hasPrefix (c :: t) [61] || Lib.hasPrefix (c :: t) [60] || Lib.hasPrefix (c :: t) [62]) := by
  simp only [pf_one, mk1, List.any_cons, List.any_nil, Bool.or_false]
  have e : ∀ n : Nat, (n == c.toNat) = decide (c.toNat = n) := fun n => by rw [Bool.eq_iff_iff]; simp; exact eq_comm
  simp only [e, Bool.or_assoc]
  rfl
theorem mk2_or (c : UInt8) (t : List UInt8) : mk2 (c :: t) = (Lib.hasPrefix (c :: t) [46, 46] || Lib.hasPrefix (c :: t) [60, 62] || Lib.hasPrefix (c :: t) [60, 61] || Lib.hasPrefix (c :: t) [62, 61]) := by
  simp only [pf_two]
  have k1 : (46 : UInt8).toNat = 46 := rfl
  have k2 : (60 : UInt8).toNat = 60 := rfl
  have k3 : (62 : UInt8).toNat = 62 := rfl
  have k4 : (61 : UInt8).toNat = 61 := rfl
  cases t with
  | nil => simp [mk2, pf_nil]
  | cons d t =>
    simp only [pf_one, mk2, k1, k2, k3, k4]
    rw [Bool.eq_iff_iff]
    simp only [decide_eq_true_eq, Bool.or_eq_true, Bool.and_eq_true]
    omega
def pfx (c : UInt8) (t : List UInt8) (k : Nat) : Bool := Lib.hasPrefix (c :: t) (mkL.getD k [])
theorem km_eq (c : UInt8) (t : List UInt8) : kmF (c :: t) = if (pfx c t 0 || pfx c t 1 || pfx c t 2 || pfx c t 3) then 8 else if (pfx c t 4 || pfx c t 5 || pfx c t 6 || pfx c t 7 || pfx c t 8 || pfx c t 9 || pfx c t 10 || pfx c t 11 || pfx c t 12 || pfx c t 13 || pfx c t 14 || pfx c t 15 || pfx c t 16 || pfx c t 17 || pfx c t 18 || pfx c t 19 || pfx c t 20 || pfx c t 21) then 6 else 0 := by
  unfold kmF
  rw [mk2_or]
  simp only [mk1_or c t]
  rfl
theorem km_found {c : UInt8} {t : List UInt8} (k : Nat) (hk : k < 22) (h : ∀ j, j < k → pfx c t j = false) (hy : pfx c t k = true) : kmF (c :: t) = if k < 4 then 8 else 6 := by
  rw [km_eq]
  have hc : k = 0 ∨ k = 1 ∨ k = 2 ∨ k = 3 ∨ k = 4 ∨ k = 5 ∨ k = 6 ∨ k = 7 ∨ k = 8 ∨ k = 9 ∨ k = 10 ∨ k = 11 ∨ k = 12 ∨ k = 13 ∨ k = 14 ∨ k = 15 ∨ k = 16 ∨ k = 17 ∨ k = 18 ∨ k = 19 ∨ k = 20 ∨ k = 21 := by omega
  rcases hc with rfl | rfl | rfl | rfl | rfl | rfl | rfl | rfl | rfl | rfl | rfl | rfl | rfl | rfl | rfl | rfl | rfl | rfl | rfl | rfl | rfl | rfl
  · simp [hy]
  · simp [hy, h 0 (by omega)]
  · simp [hy, h 0 (by omega), h 1 (by omega)]
  · simp [hy, h 0 (by omega), h 1 (by omega), h 2 (by omega)]
  · simp [hy, h 0 (by omega), h 1 (by omega), h 2 (by omega), h 3 (by omega)]
  · simp [hy, h 0 (by omega), h 1 (by omega), h 2 (by omega), h 3 (by omega), h 4 (by omega)]
  · simp [hy, h 0 (by omega), h 1 (by omega), h 2 (by omega), h 3 (by omega), h 4 (by omega), h 5 (by omega)]
  · simp [hy, h 0 (by omega), h 1 (by omega), h 2 (by omega), h 3 (by omega), h 4 (by omega), h 5 (by omega), h 6 (by omega)]
  · simp [hy, h 0 (by omega), h 1 (by omega), h 2 (by omega), h 3 (by omega), h 4 (by omega), h 5 (by omega), h 6 (by omega), h 7 (by omega)]
  · simp [hy, h 0 (by omega), h 1 (by omega), h 2 (by omega), h 3 (by omega), h 4 (by omega), h 5 (by omega), h 6 (by omega), h 7 (by omega), h 8 (by omega)]
  · simp [hy, h 0 (by omega), h 1 (by omega), h 2 (by omega), h 3 (by omega), h 4 (by omega), h 5 (by omega), h 6 (by omega), h 7 (by omega), h 8 (by omega), h 9 (by omega)]
  · simp [hy, h 0 (by omega), h 1 (by omega), h 2 (by omega), h 3 (by omega), h 4 (by omega), h 5 (by omega), h 6 (by omega), h 7 (by omega), h 8 (by omega), h 9 (by omega), h 10 (by omega)]
  · simp [hy, h 0 (by omega), h 1 (by omega), h 2 (by omega), h 3 (by omega), h 4 (by omega), h 5 (by omega), h 6 (by omega), h 7 (by omega), h 8 (by omega), h 9 (by omega), h 10 (by omega), h 11 (by omega)]
  · simp [hy, h 0 (by omega), h 1 (by omega), h 2 (by omega), h 3 (by omega), h 4 (by omega), h 5 (by omega), h 6 (by omega), h 7 (by omega), h 8 (by omega), h 9 (by omega), h 10 (by omega), h 11 (by omega), h 12 (by omega)]
  · simp [hy, h 0 (by omega), h 1 (by omega), h 2 (by omega), h 3 (by omega), h 4 (by omega), h 5 (by omega), h 6 (by omega), h 7 (by omega), h 8 (by omega), h 9 (by omega), h 10 (by omega), h 11 (by omega), h 12 (by omega), h 13 (by omega)]
  · simp [hy, h 0 (by omega), h 1 (by omega), h 2 (by omega), h 3 (by omega), h 4 (by omega), h 5 (by omega), h 6 (by omega), h 7 (by omega), h 8 (by omega), h 9 (by omega), h 10 (by omega), h 11 (by omega), h 12 (by omega), h 13 (by omega), h 14 (by omega)]
  · simp [hy, h 0 (by omega), h 1 (by omega), h 2 (by omega), h 3 (by omega), h 4 (by omega), h 5 (by omega), h 6 (by omega), h 7 (by omega), h 8 (by omega), h 9 (by omega), h 10 (by omega), h 11 (by omega), h 12 (by omega), h 13 (by omega), h 14 (by omega), h 15 (by omega)]
  · simp [hy, h 0 (by omega), h 1 (by omega), h 2 (by omega), h 3 (by omega), h 4 (by omega), h 5 (by omega), h 6 (by omega), h 7 (by omega), h 8 (by omega), h 9 (by omega), h 10 (by omega), h 11 (by omega), h 12 (by omega), h 13 (by omega), h 14 (by omega), h 15 (by omega), h 16 (by omega)]
  · simp [hy, h 0 (by omega), h 1 (by omega), h 2 (by omega), h 3 (by omega), h 4 (by omega), h 5 (by omega), h 6 (by omega), h 7 (by omega), h 8 (by omega), h 9 (by omega), h 10 (by omega), h 11 (by omega), h 12 (by omega), h 13 (by omega), h 14 (by omega), h 15 (by omega), h 16 (by omega), h 17 (by omega)]
  · simp [hy, h 0 (by omega), h 1 (by omega), h 2 (by omega), h 3 (by omega), h 4 (by omega), h 5 (by omega), h 6 (by omega), h 7 (by omega), h 8 (by omega), h 9 (by omega), h 10 (by omega), h 11 (by omega), h 12 (by omega), h 13 (by omega), h 14 (by omega), h 15 (by omega), h 16 (by omega), h 17 (by omega), h 18 (by omega)]
  · simp [hy, h 0 (by omega), h 1 (by omega), h 2 (by omega), h 3 (by omega), h 4 (by omega), h 5 (by omega), h 6 (by omega), h 7 (by omega), h 8 (by omega), h 9 (by omega), h 10 (by omega), h 11 (by omega), h 12 (by omega), h 13 (by omega), h 14 (by omega), h 15 (by omega), h 16 (by omega), h 17 (by omega), h 18 (by omega), h 19 (by omega)]
  · simp [hy, h 0 (by omega), h 1 (by omega), h 2 (by omega), h 3 (by omega), h 4 (by omega), h 5 (by omega), h 6 (by omega), h 7 (by omega), h 8 (by omega), h 9 (by omega), h 10 (by omega), h 11 (by omega), h 12 (by omega), h 13 (by omega), h 14 (by omega), h 15 (by omega), h 16 (by omega), h 17 (by omega), h 18 (by omega), h 19 (by omega), h 20 (by omega)]
theorem km_none {c : UInt8} {t : List UInt8} (h : ∀ j, j < 22 → pfx c t j = false) : kmF (c :: t) = 0 := by
  rw [km_eq]
  simp [h 0 (by omega), h 1 (by omega), h 2 (by omega), h 3 (by omega), h 4 (by omega), h 5 (by omega), h 6 (by omega), h 7 (by omega), h 8 (by omega), h 9 (by omega), h 10 (by omega), h 11 (by omega), h 12 (by omega), h 13 (by omega), h 14 (by omega), h 15 (by omega), h 16 (by omega), h 17 (by omega), h 18 (by omega), h 19 (by omega), h 20 (by omega), h 21 (by omega)]
theorem mk_at (k : Nat) (h : k < 22) : ∃ x, mkL[k]? = some x ∧ mkL.getD k [] = x ∧ x.length = if k < 4 then 2 else 1 := by
  have hc : k = 0 ∨ k = 1 ∨ k = 2 ∨ k = 3 ∨ k = 4 ∨ k = 5 ∨ k = 6 ∨ k = 7 ∨ k = 8 ∨ k = 9 ∨ k = 10 ∨ k = 11 ∨ k = 12 ∨ k = 13 ∨ k = 14 ∨ k = 15 ∨ k = 16 ∨ k = 17 ∨ k = 18 ∨ k = 19 ∨ k = 20 ∨ k = 21 := by omega
  rcases hc with rfl | rfl | rfl | rfl | rfl | rfl | rfl | rfl | rfl | rfl | rfl | rfl | rfl | rfl | rfl | rfl | rfl | rfl | rfl | rfl | rfl | rfl <;> exact ⟨_, rfl, rfl, rfl⟩
theorem sU_size (l : List UInt8) : (sU l).size = l.length := by simp [sU, ByteArray.size]
set_option maxRecDepth 100000 in
set_option maxHeartbeats 1000000 in
theorem km_any (u : ByteArray) (c : UInt8) (t : List UInt8) (hu : u.data.toList = c :: t) (w : World) (hE : Lxe w) : Calls Tryz.prog 32 #[.string u] w fun e w' => e = .returned (.int .i64 (kmF u.data.toList)) ∧ w' = w := by
  obtain ⟨cs, hcs⟩ : ∃ cs, cs = mkL.map fun x => Value.string (sU x) := ⟨_, rfl⟩
  have hr : w.rangeAt 2 0 cs := fun j v hv => by rw [Nat.zero_add, tab_cell (by kernel_rfl) hE.sm j, ← hcs]; exact hv
  have hln : cs.length = 22 := by rw [hcs, List.length_map]; rfl
  have hi : (Tryz.prog.info? 56).map (·.size) = some cs.length := by rw [hln]; kernel_rfl
  have HIX : Hid (∀ (k : Nat) (x : List UInt8), mkL[k]? = some x → k < 22 → ∀ w, (Instr.index 56 (.agg cs.toArray) (.int .i64 (k : Int))).run Tryz.prog w = .ok (.string (sU x)) w) := fun k x hx hk w => ix_str 56 22 k _ _ (by kernel_rfl) hk (by rw [hcs]; simp [hx]) w
  have HU := xh hu
  rw [hu]
  clear hE hln hcs hu
  go_enter Tryz.func32, Tryz.ntmps32
  go_wp2_with (first | (refine wpList_load_mid rfl 56 _ rfl 2 0 rfl cs _ hr Tryz.underlying56 rfl hi ?_) | fail)
  generalize Value.agg cs.toArray = AG at HIX ⊢
  clear hr hi
  go_loopw [6] (fun p W => ∃ k : Nat, k ≤ 22 ∧ p = .int .i64 (k : Int) ∧ (∀ j, j < k → pfx c t j = false) ∧ W = w) (fun p _ => 22 - (RowKit.intOf p).toNat)
  case atStart => exact ⟨0, by omega, rfl, fun j h => absurd h (Nat.not_lt_zero j), rfl⟩
  case round =>
    obtain ⟨k, hk, rfl, hno, rfl⟩ := hrel
    have HNO := xh hno
    clear hno
    by_cases hlt : k < 22
    · have hltI : (k : Int) < 22 := by omega
      obtain ⟨x, hx, hgd, hxl⟩ := mk_at k hlt
      have hix := HIX.out k x hx hlt
      have hpf : pfx c t k = Lib.hasPrefix (c :: t) x := by unfold pfx; rw [hgd]
      have HPX := xh (hpX u (sU x))
      rw [HU.out, sU_list, ← hpf] at HPX
      have hsz : (sU x).size = if k < 4 then 2 else 1 := by rw [sU_size, hxl]
      clear hx hgd hpf hxl
      cases hb : pfx c t k with
      | true =>
        rw [hb] at HPX
        have hf := km_found k hlt HNO.out hb
        clear hb
        by_cases h4 : k < 4
        · rw [if_pos h4] at hf hsz
          have HB := xh hf
          clear hf h4
          go_wp2_with (first | (go_at_call 12; refine (HPX.out _).mono ?_; rintro e w1 ⟨rfl, rfl⟩) | fail)
          go_ret
          exact ⟨by rw [HB.out]; rfl, rfl⟩
        · rw [if_neg h4] at hf hsz
          have HB := xh hf
          clear hf h4
          go_wp2_with (first | (go_at_call 12; refine (HPX.out _).mono ?_; rintro e w1 ⟨rfl, rfl⟩) | fail)
          go_ret
          exact ⟨by rw [HB.out]; rfl, rfl⟩
      | false =>
        rw [hb] at HPX
        clear hsz
        go_wp2_with (first | (go_at_call 12; refine (HPX.out _).mono ?_; rintro e w1 ⟨rfl, rfl⟩) | fail)
        go_roundw
        case rel => exact ⟨k + 1, by omega, by go_num, fun j hj => (Nat.lt_succ_iff_lt_or_eq.1 hj).elim (fun h => HNO.out j h) (fun h => by subst h; exact hb), by first | trivial | rfl⟩
        case measure => simp [RowKit.intOf]; omega
    · obtain rfl : k = 22 := by omega
      have HB := xh (km_none HNO.out)
      go_wp2
      go_ret
      exact ⟨by rw [HB.out]; rfl, rfl⟩
end Go.Proofs.YthgpegldlcfolaaGreatDoor
