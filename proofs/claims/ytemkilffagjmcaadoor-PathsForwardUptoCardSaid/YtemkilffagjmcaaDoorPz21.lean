/- Paths: head. -/
import Derived.Test.YtemkilffagjmcaaDoorPz19
namespace Go.Proofs.YtemkilffagjmcaaDoor
section

/-- Joined by arcs, taken both ways. -/
inductive Jn (A : Nat → Nat → Prop) : Nat → Nat → Prop
  | refl (i : Nat) : Jn A i i
  | arc {i j : Nat} : A i j → Jn A i j
  | symm {i j : Nat} : Jn A i j → Jn A j i
  | trans {i j k : Nat} : Jn A i j → Jn A j k → Jn A i k
theorem Jn.mono {A B : Nat → Nat → Prop} (h : ∀ i j, A i j → B i j) {i j : Nat} (k : Jn A i j) : Jn B i j := by
  induction k with
  | refl i => exact .refl i
  | arc q => exact .arc (h _ _ q)
  | symm _ ih => exact .symm ih
  | trans _ _ ih1 ih2 => exact .trans ih1 ih2
/-- Where F leads to from i. -/
inductive Rt (F : List Nat) : Nat → Nat → Prop
  | here {i : Nat} : F[i]! = i → Rt F i i
  | on {i r : Nat} : F[i]! ≠ i → Rt F F[i]! r → Rt F i r
theorem Rt.root {F : List Nat} {i r : Nat} (h : Rt F i r) : F[r]! = r := by
  induction h with
  | here h => exact h
  | on _ _ ih => exact ih
theorem Rt.uniq {F : List Nat} {i r r' : Nat} (h : Rt F i r) (h' : Rt F i r') : r = r' := by
  induction h with
  | here h =>
    cases h' with
    | here _ => rfl
    | on q _ => exact absurd h q
  | on q _ ih =>
    cases h' with
    | here h => exact absurd h q
    | on _ k => exact ih k
theorem Rt.ex {F : List Nat} {n : Nat} (hle : ∀ i, i < n → F[i]! ≤ i) : ∀ i, i < n → ∃ r, Rt F i r := by
  intro i
  induction i using Nat.strongRecOn with
  | ind i ih =>
    intro hi
    by_cases h : F[i]! = i
    · exact ⟨i, .here h⟩
    · have := hle i hi
      obtain ⟨r, hr⟩ := ih F[i]! (by omega) (by omega)
      exact ⟨r, .on h hr⟩
theorem Rt.le {F : List Nat} {n : Nat} (hle : ∀ i, i < n → F[i]! ≤ i) {i r : Nat} (h : Rt F i r) : i < n → r ≤ i := by
  induction h with
  | here _ => intro _; exact Nat.le_refl _
  | @on i r _ _ ih =>
    intro hi
    have := hle i hi
    have := ih (by omega)
    omega
theorem Rt.next {F : List Nat} {i r : Nat} (h : Rt F i r) : Rt F F[i]! r := by
  cases h with
  | here h => rw [h]; exact .here h
  | on _ k => exact k
/-- A place is led nearer. -/
theorem Rt.halve {F : List Nat} {n i : Nat} (hl : F.length = n) (hle : ∀ i, i < n → F[i]! ≤ i) (hi : i < n) {j r : Nat} (h : Rt F j r) : Rt (F.set i F[F[i]!]!) j r := by
  have hs : ∀ q, (F.set i F[F[i]!]!)[q]! = if q = i then F[F[i]!]! else F[q]! := fun q => getW_set (by omega)
  induction h with
  | @here j h =>
    refine .here ?_
    rw [hs]
    split
    · rename_i e
      subst e
      rw [h, h]
    · exact h
  | @on j r h _ ih =>
    by_cases e : j = i
    · subst e
      have h1 := hle j hi
      have h2 := hle F[j]! (by omega)
      have hpj : F[j]! ≠ j := h
      have hp : (F.set j F[F[j]!]!)[F[j]!]! = F[F[j]!]! := by rw [hs, if_neg hpj]
      refine .on (by rw [hs, if_pos rfl]; omega) ?_
      rw [hs, if_pos rfl]
      have := ih.next
      rw [hp] at this
      exact this
    · refine .on (by rw [hs, if_neg e]; exact h) ?_
      rw [hs, if_neg e]
      exact ih
/-- Two roots become one. -/
theorem Rt.join {F : List Nat} {M m : Nat} (hM : M < F.length) (h1 : F[M]! = M) (h2 : F[m]! = m) {j q : Nat} (h : Rt F j q) : Rt (F.set M m) j (if q = M then m else q) := by
  have hs : ∀ q, (F.set M m)[q]! = if q = M then m else F[q]! := fun q => getW_set hM
  have hm : Rt (F.set M m) m m := .here (by
    rw [hs]
    split
    · rfl
    · exact h2)
  induction h with
  | @here j h =>
    by_cases e : j = M
    · rw [if_pos e]
      by_cases e2 : m = M
      · rw [e, ← e2]
        rw [← e2] at hm
        exact hm
      · refine .on (by rw [hs, if_pos e, e]; exact e2) ?_
        rw [hs, if_pos e]
        exact hm
    · rw [if_neg e]
      exact .here (by rw [hs, if_neg e]; exact h)
  | @on j q h _ ih =>
    have e : j ≠ M := fun e => h (by rw [e]; exact h1)
    exact .on (by rw [hs, if_neg e]; exact h) (by rw [hs, if_neg e]; exact ih)
/-- The forest of the arcs A. -/
structure Uf (A : Nat → Nat → Prop) (n : Nat) (F : List Nat) : Prop where
  len : F.length = n
  le : ∀ i, i < n → F[i]! ≤ i
  jn : ∀ i r, i < n → Rt F i r → Jn A i r
  eq : ∀ i j, A i j → ∀ r r', Rt F i r → Rt F j r' → r = r'
theorem Uf.same {A : Nat → Nat → Prop} {n : Nat} {F : List Nat} (h : Uf A n F) (hA : ∀ i j, A i j → i < n ∧ j < n) {i j : Nat} (k : Jn A i j) : i < n → j < n ∧ ∀ r r', Rt F i r → Rt F j r' → r = r' := by
  have key : ∀ {i j}, Jn A i j → (i < n ↔ j < n) ∧ (i < n → ∀ r r', Rt F i r → Rt F j r' → r = r') := by
    intro i j k
    induction k with
    | refl i => exact ⟨Iff.rfl, fun _ r r' a b => a.uniq b⟩
    | @arc i j q => exact ⟨⟨fun _ => (hA _ _ q).2, fun _ => (hA _ _ q).1⟩, fun _ r r' a b => h.eq _ _ q r r' a b⟩
    | symm _ ih => exact ⟨ih.1.symm, fun hj r r' a b => (ih.2 (ih.1.2 hj) r' r b a).symm⟩
    | trans _ _ ih1 ih2 =>
      refine ⟨ih1.1.trans ih2.1, fun hi r r' a b => ?_⟩
      obtain ⟨s, hs⟩ := Rt.ex h.le _ (ih1.1.1 hi)
      exact (ih1.2 hi r s a hs).trans (ih2.2 (ih1.1.1 hi) s r' hs b)
  exact fun hi => ⟨(key k).1.1 hi, (key k).2 hi⟩
/-- A root is the least of those that it is joined with. -/
theorem Uf.least {A : Nat → Nat → Prop} {n : Nat} {F : List Nat} (h : Uf A n F) (hA : ∀ i j, A i j → i < n ∧ j < n) {i r : Nat} (hi : i < n) (k : Rt F i r) : Jn A i r ∧ ∀ j, Jn A i j → r ≤ j := by
  refine ⟨h.jn i r hi k, fun j hj => ?_⟩
  obtain ⟨hjn, e⟩ := h.same hA hj hi
  obtain ⟨s, hs⟩ := Rt.ex h.le j hjn
  rw [e r s k hs]
  exact hs.le h.le hjn
/-- At the beginning. -/
theorem Uf.start (n : Nat) (F : List Nat) (hl : F.length = n) (h : ∀ i, i < n → F[i]! = i) : Uf (fun _ _ => False) n F :=
  ⟨hl, fun i hi => by rw [h i hi]; exact Nat.le_refl _, fun i r hi k => by rw [k.uniq (.here (h i hi))]; exact .refl i, fun i j q => q.elim⟩
/-- A place is led nearer: the forest stays. -/
theorem Uf.halve {A : Nat → Nat → Prop} {n i : Nat} {F : List Nat} (h : Uf A n F) (hA : ∀ i j, A i j → i < n ∧ j < n) (hi : i < n) : Uf A n (F.set i F[F[i]!]!) ∧ ∀ j r, j < n → (Rt (F.set i F[F[i]!]!) j r ↔ Rt F j r) := by
  have hs : ∀ q, (F.set i F[F[i]!]!)[q]! = if q = i then F[F[i]!]! else F[q]! := fun q => getW_set (by have := h.len; omega)
  have hle : ∀ j, j < n → (F.set i F[F[i]!]!)[j]! ≤ j := fun j hj => by
    rw [hs]
    split
    · rename_i e
      have h1 := h.le i hi
      have h2 := h.le F[i]! (by omega)
      omega
    · exact h.le j hj
  have hiff : ∀ j r, j < n → (Rt (F.set i F[F[i]!]!) j r ↔ Rt F j r) := fun j r hj => by
    refine ⟨fun k => ?_, fun k => k.halve h.len h.le hi⟩
    obtain ⟨s, hs⟩ := Rt.ex h.le j hj
    rw [k.uniq (hs.halve h.len h.le hi)]
    exact hs
  refine ⟨⟨by rw [List.length_set]; exact h.len, hle, fun j r hj k => h.jn j r hj ((hiff j r hj).1 k), fun p q hpq r r' a b => ?_⟩, hiff⟩
  obtain ⟨hp, hq⟩ := hA p q hpq
  exact h.eq p q hpq r r' ((hiff p r hp).1 a) ((hiff q r' hq).1 b)
/-- One arc more. -/
theorem Uf.join {A : Nat → Nat → Prop} {n x y a b : Nat} {F : List Nat} (h : Uf A n F) (hA : ∀ i j, A i j → i < n ∧ j < n) (hx : x < n) (hy : y < n) (ha : Rt F x a) (hb : Rt F y b) : Uf (fun i j => A i j ∨ (i = x ∧ j = y)) n (F.set (max a b) (min a b)) := by
  have hal : a ≤ x := ha.le h.le hx
  have hbl : b ≤ y := hb.le h.le hy
  have hM : max a b < F.length := by rw [h.len]; omega
  have h1 : F[max a b]! = max a b := by
    rcases Nat.le_total a b with q | q
    · rw [Nat.max_eq_right q]; exact hb.root
    · rw [Nat.max_eq_left q]; exact ha.root
  have h2 : F[min a b]! = min a b := by
    rcases Nat.le_total a b with q | q
    · rw [Nat.min_eq_left q]; exact ha.root
    · rw [Nat.min_eq_right q]; exact hb.root
  have hs : ∀ q, (F.set (max a b) (min a b))[q]! = if q = max a b then min a b else F[q]! := fun q => getW_set hM
  have hab : Jn (fun i j => A i j ∨ (i = x ∧ j = y)) a b := ((((h.jn x a hx ha).mono fun _ _ q => .inl q).symm).trans (.arc (.inr ⟨rfl, rfl⟩))).trans ((h.jn y b hy hb).mono fun _ _ q => .inl q)
  have hMm : Jn (fun i j => A i j ∨ (i = x ∧ j = y)) (max a b) (min a b) := by
    rcases Nat.le_total a b with q | q
    · rw [Nat.max_eq_right q, Nat.min_eq_left q]; exact hab.symm
    · rw [Nat.max_eq_left q, Nat.min_eq_right q]; exact hab
  refine ⟨by rw [List.length_set]; exact h.len, fun i hi => ?_, fun i r hi k => ?_, fun i j hij r r' k k' => ?_⟩
  · rw [hs]
    split
    · omega
    · exact h.le i hi
  · obtain ⟨q, hq⟩ := Rt.ex h.le i hi
    rw [k.uniq (hq.join hM h1 h2)]
    have hj : Jn (fun i j => A i j ∨ (i = x ∧ j = y)) i q := (h.jn i q hi hq).mono fun _ _ q => .inl q
    split
    · rename_i e
      rw [e] at hj
      exact hj.trans hMm
    · exact hj
  · rcases hij with hij | ⟨rfl, rfl⟩
    · obtain ⟨hi, hj⟩ := hA i j hij
      obtain ⟨q, hq⟩ := Rt.ex h.le i hi
      obtain ⟨q', hq'⟩ := Rt.ex h.le j hj
      rw [k.uniq (hq.join hM h1 h2), k'.uniq (hq'.join hM h1 h2), h.eq i j hij q q' hq hq']
    · rw [k.uniq (ha.join hM h1 h2), k'.uniq (hb.join hM h1 h2)]
      rcases Nat.le_total a b with q | q
      · rw [Nat.max_eq_right q, Nat.min_eq_left q, if_pos rfl]
        split <;> rfl
      · rw [Nat.max_eq_left q, Nat.min_eq_right q, if_pos rfl]
        split <;> rfl
end
open Go.RowKit

/-- A row of places, with a cell of it. -/
theorem Rw.atN {lo fg n cap : Nat} {w : World} {F : List Nat} (h : Rw lo 3 1 w (.slice (some ⟨fg, 0, none⟩) n cap) n (F.map fun (i : Nat) => I (i : Int))) (hl : F.length = n) {m : Nat} (hm : m < n) : w.cell? ⟨fg, m, none⟩ = some (I ((F[m]! : Nat) : Int)) ∧ w.frozen? ⟨fg, m, none⟩ = false := by
  obtain ⟨g', cap', e, -, hc, -⟩ := h.cell (by omega)
  obtain ⟨_, _, ys, hy⟩ := Rw.own h (b := fg) rfl
  have eg : fg = g' := by simp at e; exact e.1
  subst eg
  refine ⟨?_, hy.frozen m⟩
  rw [hc m (by omega), List.getElem?_map, List.getElem?_eq_getElem (by omega), Hp.get_of (by omega)]
  rfl
set_option maxRecDepth 100000 in
set_option maxHeartbeats 2000000 in
theorem head_any (lo fg n cap : Nat) (W : World) (A : Nat → Nat → Prop) (hA : ∀ i j, A i j → i < n ∧ j < n) (F : List Nat) (uf : Uf A n F) (hr : Rw lo 3 1 W (.slice (some ⟨fg, 0, none⟩) n cap) n (F.map fun (i : Nat) => I (i : Int))) (i r : Nat) (hi : i < n) (k : Rt F i r) :
    Calls Tryd.prog 35 #[(.slice (some ⟨fg, 0, none⟩) n cap), I i] W fun e W' => ∃ F', e = .returned (I r) ∧ Uf A n F' ∧ (∀ j q, j < n → (Rt F' j q ↔ Rt F j q)) ∧ Rw lo 3 1 W' (.slice (some ⟨fg, 0, none⟩) n cap) n (F'.map fun (i : Nat) => I (i : Int)) ∧ Chg (fun b => b = fg) W W' := by
  have HUF := hide uf
  have HR := hide hr
  have HK := hide k
  have HI := hide hi
  have HA := hide hA
  clear uf hr k hi hA
  go_enter Tryd.func35, Tryd.ntmps35
  go_wp2_with fail
  go_loopw [1] (fun iv wr => ∃ (j : Nat) (F' : List Nat), iv = I j ∧ j < n ∧ Rt F' j r ∧ Uf A n F' ∧ (∀ j q, j < n → (Rt F' j q ↔ Rt F j q)) ∧ Rw lo 3 1 wr (.slice (some ⟨fg, 0, none⟩) n cap) n (F'.map fun (i : Nat) => I (i : Int)) ∧ Chg (fun b => b = fg) W wr) (fun iv _ => (RowKit.intOf iv).toNat)
  case atStart => exact ⟨i, F, rfl, HI.out, HK.out, HUF.out, fun _ _ _ => Iff.rfl, HR.out, Chg.refl _ _⟩
  case round =>
    obtain ⟨j, F', rfl, hj, hk, huf, hiff, hrw, hch⟩ := hrel
    have hjI : (j : Int) < n := Int.ofNat_lt.2 hj
    obtain ⟨cj, zj⟩ := hrw.atN huf.len hj
    have hle := huf.le j hj
    by_cases hroot : F'[j]! = j
    · have hrj : r = j := hk.uniq (.here hroot)
      rw [hroot] at cj
      have HF : Hid (∃ F', Ending.returned (I (j : Int)) = .returned (I (r : Int)) ∧ Uf A n F' ∧ (∀ j q, j < n → (Rt F' j q ↔ Rt F j q)) ∧ Rw lo 3 1 wr (.slice (some ⟨fg, 0, none⟩) n cap) n (F'.map fun (i : Nat) => I (i : Int)) ∧ Chg (fun b => b = fg) W wr) := ⟨F', by rw [hrj], huf, hiff, hrw, hch⟩
      clear hj hk huf hiff hrw hch hle hroot hrj
      go_wp2_with fail
      go_ret
      exact HF.out
    · obtain ⟨x, hx⟩ : ∃ x, x = F'[j]! := ⟨_, rfl⟩
      have hxj : x < j := by omega
      have hxI : (x : Int) < n := by omega
      obtain ⟨cx, -⟩ := hrw.atN huf.len (m := x) (by omega)
      obtain ⟨u2, hiff2⟩ := huf.halve HA.out hj
      obtain ⟨y, hy⟩ : ∃ y, y = F'[x]! := ⟨_, rfl⟩
      have hyx : y ≤ x := by rw [hy]; exact huf.le x (by omega)
      have hrw2 := Rw.set hrw j (by omega) (I (y : Int))
      rw [← hx, ← hy] at u2 hiff2
      rw [← hx] at cj
      rw [← hy] at cx
      have hst : (F'.set j y)[j]! = y := by rw [getW_set (by rw [huf.len]; exact hj), if_pos rfl]
      have hrw3 : Rw lo 3 1 (wr.setCell ⟨fg, j, none⟩ (I (y : Int))) (.slice (some ⟨fg, 0, none⟩) n cap) n ((F'.set j y).map fun (i : Nat) => I (i : Int)) := by rw [List.map_set]; exact hrw2
      obtain ⟨cy, -⟩ := hrw3.atN u2.len hj
      rw [hst] at cy
      have hne : ((x : Int) == (j : Int)) = false := beq_eq_false_iff_ne.2 (by omega)
      have HREL : Hid (∃ (j' : Nat) (F' : List Nat), I (y : Int) = I j' ∧ j' < n ∧ Rt F' j' r ∧ Uf A n F' ∧ (∀ j q, j < n → (Rt F' j q ↔ Rt F j q)) ∧ Rw lo 3 1 (wr.setCell ⟨fg, j, none⟩ (I (y : Int))) (.slice (some ⟨fg, 0, none⟩) n cap) n (F'.map fun (i : Nat) => I (i : Int)) ∧ Chg (fun b => b = fg) W (wr.setCell ⟨fg, j, none⟩ (I (y : Int)))) := by
        refine ⟨y, F'.set j y, rfl, by omega, ?_, u2, fun q s hq => (hiff2 q s hq).trans (hiff q s hq), hrw3, hch.trans (chg_setCell _ _ (.inl rfl))⟩
        have := ((hiff2 j r hj).2 hk).next
        rw [hst] at this
        exact this
      have HMS : Hid (y < j) := by show _ < _; omega
      clear hj hk huf hiff hrw hch hle hroot hx hxj u2 hiff2 hy hyx hrw2 hst hrw3
      go_wp2_with fail
      go_roundw
      case rel => exact HREL.out
      case measure => simp only [RowKit.intOf, Int.toNat_natCast]; exact HMS.out
end Go.Proofs.YtemkilffagjmcaaDoor
