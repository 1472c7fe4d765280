/- Tokens: the thought. -/
import Derived.Test.YthpflfkgbapbnaaGreatDoorBase
import Derived.Lib.Bytealg
namespace Go.Proofs.YthpflfkgbapbnaaGreatDoor
open Go.RowKit

theorem xh {p : Prop} (h : p) : Hid p := h
def xA (c : UInt8) : Bool := decide (97 ≤ c.toNat ∧ c.toNat ≤ 122)
def xD (c : UInt8) : Bool := decide (48 ≤ c.toNat ∧ c.toNat ≤ 57)
def xW (c : UInt8) : Bool := xA c || xD c
def xB (c : UInt8) : Bool := decide (c.toNat = 32 ∨ c.toNat = 9 ∨ c.toNat = 10 ∨ c.toNat = 13)
def sl1 (r : List UInt8) : Bool := match r with | d :: _ => decide (d.toNat = 47) | [] => false
/-- How many bytes are blanks and comments; true: in a comment. -/
def skN : Bool → List UInt8 → Nat
  | _, [] => 0
  | true, c :: r => if c.toNat = 10 then 1 + skN false r else 1 + skN true r
  | false, c :: r => if xB c then 1 + skN false r else if c.toNat = 47 ∧ sl1 r = true then 1 + skN true r else 0
theorem skN_nil (b : Bool) : skN b [] = 0 := by cases b <;> rfl
theorem skN_len (l : List UInt8) : ∀ b, skN b l ≤ l.length := by
  induction l with
  | nil => intro b; rw [skN_nil]; exact Nat.le_refl _
  | cons c r ih =>
    intro b
    have h1 := ih true
    have h2 := ih false
    cases b
    · simp only [skN, List.length_cons]
      split
      · omega
      · split <;> omega
    · simp only [skN, List.length_cons]
      split <;> omega
def skp (l : List UInt8) (i : Nat) : Nat := i + skN false (l.drop i)
def skc (l : List UInt8) (i : Nat) : Nat := i + skN true (l.drop i)
theorem drop_at {l : List UInt8} {i : Nat} {c : UInt8} (h : l[i]? = some c) : l.drop i = c :: l.drop (i + 1) := by
  obtain ⟨h1, h2⟩ := List.getElem?_eq_some_iff.1 h
  rw [List.drop_eq_getElem_cons h1, h2]
theorem skp_end {l : List UInt8} {i : Nat} (h : l.length ≤ i) : skp l i = i := by
  unfold skp; rw [List.drop_of_length_le h, skN_nil]; rfl
theorem skc_end {l : List UInt8} {i : Nat} (h : l.length ≤ i) : skc l i = skp l i := by
  rw [skp_end h]; unfold skc; rw [List.drop_of_length_le h, skN_nil]; rfl
theorem skp_le (l : List UInt8) (i : Nat) (h : i ≤ l.length) : i ≤ skp l i ∧ skp l i ≤ l.length := by
  have := skN_len (l.drop i) false
  rw [List.length_drop] at this
  unfold skp; omega
theorem skp_blank {l : List UInt8} {i : Nat} {c : UInt8} (h : l[i]? = some c) (hb : xB c = true) : skp l i = skp l (i + 1) := by
  unfold skp; rw [drop_at h]; simp only [skN, hb, if_true]; omega
theorem skp_com {l : List UInt8} {i : Nat} {c d : UInt8} (h : l[i]? = some c) (hc : c.toNat = 47) (h2 : l[i + 1]? = some d) (hd : d.toNat = 47) : skp l i = skc l i := by
  have hb : xB c = false := by simp [xB, hc]
  have hs : sl1 (l.drop (i + 1)) = true := by rw [drop_at h2]; simp [sl1, hd]
  unfold skp skc; rw [drop_at h]
  simp only [skN, hb, hc, hs]
  simp
theorem skp_stop {l : List UInt8} {i : Nat} {c : UInt8} (h : l[i]? = some c) (hb : xB c = false) (hn : ¬ (c.toNat = 47 ∧ sl1 (l.drop (i + 1)) = true)) : skp l i = i := by
  unfold skp; rw [drop_at h]; simp only [skN, hb]
  rw [if_neg (by decide), if_neg hn]; rfl
theorem skc_lf {l : List UInt8} {i : Nat} {c : UInt8} (h : l[i]? = some c) (hc : c.toNat = 10) : skc l i = skp l i := by
  have hb : xB c = true := by simp [xB, hc]
  unfold skp skc; rw [drop_at h]; simp only [skN, hb, hc, if_true]
theorem skc_on {l : List UInt8} {i : Nat} {c : UInt8} (h : l[i]? = some c) (hc : ¬ c.toNat = 10) : skc l i = skc l (i + 1) := by
  unfold skc; rw [drop_at h]; simp only [skN]; rw [if_neg hc]; omega
theorem sl1_at {l : List UInt8} {i : Nat} (h : sl1 (l.drop i) = true) : ∃ d, l[i]? = some d ∧ d.toNat = 47 := by
  cases hd : l[i]? with
  | none =>
    rw [List.drop_of_length_le (List.getElem?_eq_none_iff.1 hd)] at h
    simp [sl1] at h
  | some d =>
    rw [drop_at hd] at h
    exact ⟨d, rfl, by simpa [sl1] using h⟩
/-- The next line feed. -/
theorem idx_sk (r : List UInt8) : (Lib.indexByte r 10 < 0 → skN true r = r.length) ∧ (∀ n : Nat, Lib.indexByte r 10 = (n : Int) → n < r.length ∧ skN true r = n + skN false (r.drop n)) := by
  induction r with
  | nil => exact ⟨fun _ => rfl, fun n h => by simp [Lib.indexByte] at h⟩
  | cons c r ih =>
    by_cases hc : c = 10
    · subst hc
      refine ⟨fun h => ?_, fun n h => ?_⟩
      · simp [Lib.indexByte] at h
      · have : n = 0 := by simp [Lib.indexByte] at h; omega
        subst this
        exact ⟨by simp, by simp [skN, xB]⟩
    · have hc' : ¬ c.toNat = 10 := fun e => hc (UInt8.toNat_inj.1 e)
      have hg := Lib.indexByte_ge r 10
      have hi : Lib.indexByte (c :: r) 10 = if Lib.indexByte r 10 == -1 then -1 else Lib.indexByte r 10 + 1 := by
        simp [Lib.indexByte, hc]
      rw [hi]
      by_cases h1 : Lib.indexByte r 10 = -1
      · refine ⟨fun _ => ?_, fun n h => ?_⟩
        · have := ih.1 (by omega)
          simp only [skN, List.length_cons]; rw [if_neg hc', this]; omega
        · rw [h1] at h; simp at h
      · rw [if_neg (by simpa using h1)]
        refine ⟨fun h => by omega, fun n h => ?_⟩
        obtain ⟨m, rfl⟩ : ∃ m, n = m + 1 := ⟨n - 1, by omega⟩
        obtain ⟨h2, h3⟩ := ih.2 m (by omega)
        refine ⟨by simp; omega, ?_⟩
        simp only [skN, List.drop_succ_cons]; rw [if_neg hc', h3]; omega
theorem skc_none {l : List UInt8} {i : Nat} (hi : i ≤ l.length) (h : Lib.indexByte (l.drop i) 10 < 0) : skc l i = skp l l.length := by
  rw [skp_end (Nat.le_refl _)]
  unfold skc; rw [(idx_sk _).1 h, List.length_drop]; omega
theorem skc_some {l : List UInt8} {i n : Nat} (h : Lib.indexByte (l.drop i) 10 = (n : Int)) : i + n < l.length ∧ skc l i = skp l (i + n) := by
  obtain ⟨h1, h2⟩ := (idx_sk _).2 n h
  rw [List.length_drop] at h1
  refine ⟨by omega, ?_⟩
  unfold skc skp; rw [h2, List.drop_drop]; omega
theorem ib_blank (c : UInt8) : (0 ≤ Lib.indexByte [32, 9, 10, 13] c) ↔ xB c = true := by
  have e : ∀ d : UInt8, (d == c) = decide (c.toNat = d.toNat) := fun d => by
    rw [Bool.eq_iff_iff]; simp; exact ⟨fun h => by rw [h], fun h => UInt8.toNat_inj.1 h.symm⟩
  simp only [Lib.indexByte, e, xB]
  have k1 : (32 : UInt8).toNat = 32 := rfl
  have k2 : (9 : UInt8).toNat = 9 := rfl
  have k3 : (10 : UInt8).toNat = 10 := rfl
  have k4 : (13 : UInt8).toNat = 13 := rfl
  rw [k1, k2, k3, k4]
  by_cases h1 : c.toNat = 32
  · simp [h1]
  · by_cases h2 : c.toNat = 9
    · simp [h2]
    · by_cases h3 : c.toNat = 10
      · simp [h3]
      · by_cases h4 : c.toNat = 13
        · simp [h4]
        · simp [h1, h2, h3, h4]

/-- A run of bytes of one kind. -/
def spn (p : UInt8 → Bool) (r : List UInt8) : Nat := (r.takeWhile p).length
theorem spn_lt {p : UInt8 → Bool} : ∀ (l : List UInt8) (k : Nat), k < spn p l → ∃ c, l[k]? = some c ∧ p c = true
  | [], k, h => by simp [spn] at h
  | c :: l, k, h => by
    unfold spn at h
    cases hp : p c with
    | false => rw [List.takeWhile_cons, hp] at h; simp at h
    | true =>
      rw [List.takeWhile_cons, hp] at h
      cases k with
      | zero => exact ⟨c, rfl, hp⟩
      | succ k =>
        obtain ⟨d, h1, h2⟩ := spn_lt (p := p) l k (by simp at h; exact h)
        exact ⟨d, by simpa using h1, h2⟩
theorem spn_end {p : UInt8 → Bool} : ∀ (l : List UInt8) (c : UInt8), l[spn p l]? = some c → p c = false
  | [], c, h => by simp at h
  | d :: l, c, h => by
    unfold spn at h
    cases hp : p d with
    | false => rw [List.takeWhile_cons, hp] at h; simp at h; rw [← h]; exact hp
    | true =>
      rw [List.takeWhile_cons, hp] at h
      exact spn_end l c (by simpa [spn] using h)
theorem spn_len {p : UInt8 → Bool} : ∀ (l : List UInt8), spn p l ≤ l.length
  | [] => by simp [spn]
  | d :: l => by
    have := spn_len (p := p) l
    unfold spn at this ⊢
    rw [List.takeWhile_cons]
    split
    · simp; omega
    · simp
theorem spn_cons {p : UInt8 → Bool} {c : UInt8} (r : List UInt8) (h : p c = true) : 1 ≤ spn p (c :: r) := by
  unfold spn; rw [List.takeWhile_cons, h]; simp
theorem spn_take {p : UInt8 → Bool} : ∀ (l : List UInt8), l.take (spn p l) = l.takeWhile p
  | [] => by simp [spn]
  | d :: l => by
    have := spn_take (p := p) l
    unfold spn at this ⊢
    rw [List.takeWhile_cons]
    split
    · simp [this]
    · simp

/-- The number that digits spell. -/
def decN (r : List UInt8) : Nat := r.foldl (fun a c => a * 10 + (c.toNat - 48)) 0
def wdL : List (List UInt8) := [[109, 97, 116, 99, 104], [111, 112, 116, 105, 111, 110, 97, 108], [119, 104, 101, 114, 101], [99, 114, 101, 97, 116, 101], [109, 101, 114, 103, 101], [115, 101, 116], [114, 101, 109, 111, 118, 101], [100, 101, 108, 101, 116, 101], [100, 101, 116, 97, 99, 104], [97, 98, 111, 114, 116], [119, 105, 116, 104], [114, 101, 116, 117, 114, 110], [100, 105, 115, 116, 105, 110, 99, 116], [97, 115], [111, 114, 100, 101, 114], [98, 121], [97, 115, 99], [100, 101, 115, 99], [115, 107, 105, 112], [108, 105, 109, 105, 116], [97, 110, 100], [111, 114], [120, 111, 114], [110, 111, 116], [105, 115], [110, 117, 108, 108], [116, 114, 117, 101], [102, 97, 108, 115, 101], [105, 110], [115, 116, 97, 114, 116, 115], [101, 110, 100, 115], [99, 111, 110, 116, 97, 105, 110, 115], [99, 97, 115, 101], [119, 104, 101, 110], [116, 104, 101, 110], [101, 108, 115, 101], [101, 110, 100]]
def wdB (t : List UInt8) : Bool := wdL.any fun x => x == t
def mk1 (c : UInt8) : Bool := [40, 41, 91, 93, 123, 125, 44, 59, 58, 46, 42, 43, 45, 47, 37, 61, 60, 62].any fun (x : Nat) => x == c.toNat
def mk2 (r : List UInt8) : Bool := match r with
  | c :: d :: _ => decide ((c.toNat = 46 ∧ d.toNat = 46) ∨ (c.toNat = 60 ∧ (d.toNat = 62 ∨ d.toNat = 61)) ∨ (c.toNat = 62 ∧ d.toNat = 61))
  | _ => false
/-- Behind the closing quote: how many bytes. -/
def qE : List UInt8 → Option Nat
  | [] => none
  | [c] => if c.toNat = 39 then some 1 else none
  | c :: d :: r => if c.toNat = 39 then some 1 else if c.toNat = 92 then (qE r).map (· + 2) else (qE (d :: r)).map (· + 1)
def imB (r : List UInt8) : Bool := (r[spn xD r]?.any fun c => decide (c.toNat = 105)) && !(r[spn xD r + 1]?.any xW)
inductive TkV where
  | bad (c : Int) (o : Nat)
  | tok (k : Int) (t : ByteArray) (m : Nat)
def sU (l : List UInt8) : ByteArray := ⟨l.toArray⟩
theorem sU_list (l : List UInt8) : (sU l).data.toList = l := by simp [sU]
theorem sU_ext (u : ByteArray) (i n : Nat) : u.extract i (i + n) = sU ((u.data.toList.drop i).take n) := by
  apply ByteArray.ext
  rw [ByteArray.data_extract]
  apply Array.ext'
  rw [Array.toList_extract, sU_list, List.extract_eq_take_drop]
  congr 1
  omega
def nmT (r : List UInt8) : TkV := if 8 < spn xW r then .bad 102 0 else .tok (if wdB (r.take (spn xW r)) then 2 else 1) (sU (r.take (spn xW r))) (spn xW r)
def nuT (r : List UInt8) : TkV :=
  if imB r then (if 33554432 < decN (r.take (spn xD r)) then .bad 102 0 else .tok 4 (sU (r.take (spn xD r + 1))) (spn xD r + 1))
  else if 9223372036854775808 < decN (r.take (spn xD r)) then .bad 102 0
  else if r[spn xD r]?.any xA then .bad 100 (spn xD r) else .tok 3 (sU (r.take (spn xD r))) (spn xD r)
def mkT (c : UInt8) (r : List UInt8) : TkV := if mk1 c then .tok 6 (sU (r.take (if mk2 r then 2 else 1))) (if mk2 r then 2 else 1) else .bad 100 0
def tkN (c : UInt8) (r : List UInt8) : TkV := if xA c then nmT r else if xD c then nuT r else mkT c r
def sqT (m : Nat) (o : Option ByteArray) : TkV := match o with | none => .bad 100 0 | some s => .tok 5 s (m + 1)
/-- What stands at the beginning of a text; Q: what the reading of a string's literal answers. -/
def Tk (Q : List UInt8 → Option ByteArray → Prop) : List UInt8 → TkV → Prop
  | [], _ => False
  | c :: r, x => if c.toNat = 39 then (match qE r with | none => x = .bad 100 0 | some m => ∃ o, Q (c :: r.take m) o ∧ x = sqT m o) else x = tkN c (c :: r)
theorem qE_len : ∀ (n : Nat) (r : List UInt8) (m : Nat), r.length ≤ n → qE r = some m → 1 ≤ m ∧ m ≤ r.length
  | _, [], m, _, h => by simp [qE] at h
  | _, [c], m, _, h => by
    simp only [qE] at h
    split at h
    · cases h; simp
    · cases h
  | 0, c :: d :: r, m, hn, _ => by simp at hn
  | n + 1, c :: d :: r, m, hn, h => by
    simp only [qE] at h
    simp only [List.length_cons] at hn
    split at h
    · cases h; simp
    · split at h
      · cases hq : qE r with
        | none => rw [hq] at h; cases h
        | some k =>
          rw [hq] at h
          cases h
          have := qE_len n r k (by omega) hq
          simp; omega
      · cases hq : qE (d :: r) with
        | none => rw [hq] at h; cases h
        | some k =>
          rw [hq] at h
          cases h
          have := qE_len n (d :: r) k (by simp; omega) hq
          simp at this ⊢; omega
theorem any_some {o : Option UInt8} {p : UInt8 → Bool} (h : o.any p = true) : ∃ c, o = some c ∧ p c = true := by
  cases o with
  | none => cases h
  | some c => exact ⟨c, rfl, h⟩
theorem nm_len {c : UInt8} {r : List UInt8} {k : Int} {t : ByteArray} {m : Nat} (hc : xA c = true) (h : nmT (c :: r) = .tok k t m) : 1 ≤ m ∧ m ≤ (c :: r).length ∧ k ≠ 7 := by
  unfold nmT at h
  split at h
  · cases h
  · cases h
    exact ⟨spn_cons r (by simp [xW, hc]), spn_len _, by split <;> decide⟩
theorem nu_len {c : UInt8} {r : List UInt8} {k : Int} {t : ByteArray} {m : Nat} (hc : xD c = true) (h : nuT (c :: r) = .tok k t m) : 1 ≤ m ∧ m ≤ (c :: r).length ∧ k ≠ 7 := by
  have h1 := spn_cons r hc
  have h2 := spn_len (p := xD) (c :: r)
  unfold nuT at h
  split at h
  · rename_i hi
    split at h
    · cases h
    · cases h
      unfold imB at hi
      rw [Bool.and_eq_true] at hi
      obtain ⟨d, hd, -⟩ := any_some hi.1
      have := (List.getElem?_eq_some_iff.1 hd).1
      exact ⟨by omega, by omega, by decide⟩
  · split at h
    · cases h
    · split at h
      · cases h
      · cases h
        exact ⟨h1, h2, by decide⟩
theorem mk2_len {r : List UInt8} (h : mk2 r = true) : 2 ≤ r.length := by
  match r, h with
  | [], h => cases h
  | [c], h => cases h
  | c :: d :: t, _ => simp
theorem mk_len {c : UInt8} {r : List UInt8} {k : Int} {t : ByteArray} {m : Nat} (h : mkT c (c :: r) = .tok k t m) : 1 ≤ m ∧ m ≤ (c :: r).length ∧ k ≠ 7 := by
  unfold mkT at h
  split at h
  · cases h
    refine ⟨by split <;> omega, ?_, by decide⟩
    split
    · rename_i hm; exact mk2_len hm
    · simp
  · cases h
theorem tk_len {Q : List UInt8 → Option ByteArray → Prop} {r : List UInt8} {k : Int} {t : ByteArray} {m : Nat} (h : Tk Q r (.tok k t m)) : 1 ≤ m ∧ m ≤ r.length ∧ k ≠ 7 := by
  cases r with
  | nil => exact h.elim
  | cons c r =>
    simp only [Tk] at h
    split at h
    · cases hq : qE r with
      | none => rw [hq] at h; cases h
      | some n =>
        rw [hq] at h
        obtain ⟨o, -, h⟩ := h
        have := qE_len _ r n (Nat.le_refl _) hq
        cases o with
        | none => cases h
        | some s => cases h; exact ⟨by omega, by simp; omega, by decide⟩
    · unfold tkN at h
      split at h
      · rename_i hc; exact nm_len hc h.symm
      · split at h
        · rename_i hc; exact nu_len hc h.symm
        · exact mk_len h.symm
/-- The tokens of a text, from a place on. -/
structure Tok where
  k : Int
  t : ByteArray
  p : Nat
inductive Out where
  | bad (c : Int) (p : Nat)
  | ok (l : List Tok)
def Out.app (d : List Tok) : Out → Out
  | .bad c p => .bad c p
  | .ok l => .ok (d ++ l)
inductive Lx (Q : List UInt8 → Option ByteArray → Prop) (l : List UInt8) : Nat → Out → Prop where
  | bad {j o : Nat} {c : Int} : Tk Q (l.drop j) (.bad c o) → Lx Q l j (.bad c (j + o))
  | fin {j : Nat} : l.length ≤ j → Lx Q l j (.ok [⟨7, ⟨#[]⟩, j⟩])
  | step {j m : Nat} {k : Int} {t : ByteArray} {o : Out} : Tk Q (l.drop j) (.tok k t m) → Lx Q l (skp l (j + m)) o → Lx Q l j (o.app [⟨k, t, j⟩])
theorem Out.app_app (d e : List Tok) (o : Out) : (o.app e).app d = o.app (d ++ e) := by
  cases o with
  | bad => rfl
  | ok l => simp [Out.app]
theorem Out.app_nil (o : Out) : o.app [] = o := by cases o <;> rfl
theorem tk_one {Q R : List UInt8 → Option ByteArray → Prop} (hQ : ∀ t a b, Q t a → R t b → a = b) {r : List UInt8} {x y : TkV} (h1 : Tk Q r x) (h2 : Tk R r y) : x = y := by
  cases r with
  | nil => exact h1.elim
  | cons c r =>
    simp only [Tk] at h1 h2
    split at h1
    · rename_i hc
      rw [if_pos hc] at h2
      cases hq : qE r with
      | none => rw [hq] at h1 h2; exact h1.trans h2.symm
      | some m =>
        rw [hq] at h1 h2
        obtain ⟨a, ha, rfl⟩ := h1
        obtain ⟨b, hb, rfl⟩ := h2
        rw [hQ _ a b ha hb]
    · rename_i hc
      rw [if_neg hc] at h2
      exact h1.trans h2.symm
theorem tk_end {Q : List UInt8 → Option ByteArray → Prop} {l : List UInt8} {j : Nat} {x : TkV} (h : l.length ≤ j) (h1 : Tk Q (l.drop j) x) : False := by
  rw [List.drop_of_length_le h] at h1; exact h1
theorem lx_one {Q R : List UInt8 → Option ByteArray → Prop} (hQ : ∀ t a b, Q t a → R t b → a = b) {l : List UInt8} {j : Nat} {a b : Out} (h1 : Lx Q l j a) (h2 : Lx R l j b) : a = b := by
  induction h1 generalizing b with
  | bad h =>
    cases h2 with
    | bad g => cases tk_one hQ h g; rfl
    | fin g => exact (tk_end g h).elim
    | step g _ => cases tk_one hQ h g
  | fin h =>
    cases h2 with
    | bad g => exact (tk_end h g).elim
    | fin g => rfl
    | step g _ => exact (tk_end h g).elim
  | step h _ ih =>
    cases h2 with
    | bad g => cases tk_one hQ h g
    | fin g => exact (tk_end g h).elim
    | step g g2 => cases tk_one hQ h g; rw [ih g2]
end Go.Proofs.YthpflfkgbapbnaaGreatDoor
