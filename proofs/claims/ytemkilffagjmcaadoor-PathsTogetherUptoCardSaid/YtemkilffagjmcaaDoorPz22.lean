/- Paths: parts. -/
import Derived.Test.YtemkilffagjmcaaDoorPz19
namespace Go.Proofs.YtemkilffagjmcaaDoor
section
section

/-- Joined by arcs, taken both ways. -/
inductive Jn (A : Nat → Nat → Prop) : Nat → Nat → Prop
  | refl (i : Nat) : Jn A i i
  | arc {i j : Nat} : A i j → Jn A i j
  | symm {i j : Nat} : Jn A i j → Jn A j i
  | trans {i j k : Nat} : Jn A i j → Jn A j k → Jn A i k
theorem Jn.mono {A B : Nat → Nat → Prop} (h : ∀ i j, A i j → B i j) {i j : Nat} (k : Jn A i j) : Jn B i j := by
  induction k with
  | refl i => exact .refl i
  | arc q => exact .arc (h _ _ q)
  | symm _ ih => exact .symm ih
  | trans _ _ ih1 ih2 => exact .trans ih1 ih2
/-- Where F leads to from i. -/
inductive Rt (F : List Nat) : Nat → Nat → Prop
  | here {i : Nat} : F[i]! = i → Rt F i i
  | on {i r : Nat} : F[i]! ≠ i → Rt F F[i]! r → Rt F i r
theorem Rt.root {F : List Nat} {i r : Nat} (h : Rt F i r) : F[r]! = r := by
  induction h with
  | here h => exact h
  | on _ _ ih => exact ih
theorem Rt.uniq {F : List Nat} {i r r' : Nat} (h : Rt F i r) (h' : Rt F i r') : r = r' := by
  induction h with
  | here h =>
    cases h' with
    | here _ => rfl
    | on q _ => exact absurd h q
  | on q _ ih =>
    cases h' with
    | here h => exact absurd h q
    | on _ k => exact ih k
theorem Rt.ex {F : List Nat} {n : Nat} (hle : ∀ i, i < n → F[i]! ≤ i) : ∀ i, i < n → ∃ r, Rt F i r := by
  intro i
  induction i using Nat.strongRecOn with
  | ind i ih =>
    intro hi
    by_cases h : F[i]! = i
    · exact ⟨i, .here h⟩
    · have := hle i hi
      obtain ⟨r, hr⟩ := ih F[i]! (by omega) (by omega)
      exact ⟨r, .on h hr⟩
theorem Rt.le {F : List Nat} {n : Nat} (hle : ∀ i, i < n → F[i]! ≤ i) {i r : Nat} (h : Rt F i r) : i < n → r ≤ i := by
  induction h with
  | here _ => intro _; exact Nat.le_refl _
  | @on i r _ _ ih =>
    intro hi
    have := hle i hi
    have := ih (by omega)
    omega
theorem Rt.next {F : List Nat} {i r : Nat} (h : Rt F i r) : Rt F F[i]! r := by
  cases h with
  | here h => rw [h]; exact .here h
  | on _ k => exact k
/-- A place is led nearer. -/
theorem Rt.halve {F : List Nat} {n i : Nat} (hl : F.length = n) (hle : ∀ i, i < n → F[i]! ≤ i) (hi : i < n) {j r : Nat} (h : Rt F j r) : Rt (F.set i F[F[i]!]!) j r := by
  have hs : ∀ q, (F.set i F[F[i]!]!)[q]! = if q = i then F[F[i]!]! else F[q]! := fun q => getW_set (by omega)
  induction h with
  | @here j h =>
    refine .here ?_
    rw [hs]
    split
    · rename_i e
      subst e
      rw [h, h]
    · exact h
  | @on j r h _ ih =>
    by_cases e : j = i
    · subst e
      have h1 := hle j hi
      have h2 := hle F[j]! (by omega)
      have hpj : F[j]! ≠ j := h
      have hp : (F.set j F[F[j]!]!)[F[j]!]! = F[F[j]!]! := by rw [hs, if_neg hpj]
      refine .on (by rw [hs, if_pos rfl]; omega) ?_
      rw [hs, if_pos rfl]
      have := ih.next
      rw [hp] at this
      exact this
    · refine .on (by rw [hs, if_neg e]; exact h) ?_
      rw [hs, if_neg e]
      exact ih
/-- Two roots become one. -/
theorem Rt.join {F : List Nat} {M m : Nat} (hM : M < F.length) (h1 : F[M]! = M) (h2 : F[m]! = m) {j q : Nat} (h : Rt F j q) : Rt (F.set M m) j (if q = M then m else q) := by
  have hs : ∀ q, (F.set M m)[q]! = if q = M then m else F[q]! := fun q => getW_set hM
  have hm : Rt (F.set M m) m m := .here (by
    rw [hs]
    split
    · rfl
    · exact h2)
  induction h with
  | @here j h =>
    by_cases e : j = M
    · rw [if_pos e]
      by_cases e2 : m = M
      · rw [e, ← e2]
        rw [← e2] at hm
        exact hm
      · refine .on (by rw [hs, if_pos e, e]; exact e2) ?_
        rw [hs, if_pos e]
        exact hm
    · rw [if_neg e]
      exact .here (by rw [hs, if_neg e]; exact h)
  | @on j q h _ ih =>
    have e : j ≠ M := fun e => h (by rw [e]; exact h1)
    exact .on (by rw [hs, if_neg e]; exact h) (by rw [hs, if_neg e]; exact ih)
/-- The forest of the arcs A. -/
structure Uf (A : Nat → Nat → Prop) (n : Nat) (F : List Nat) : Prop where
  len : F.length = n
  le : ∀ i, i < n → F[i]! ≤ i
  jn : ∀ i r, i < n → Rt F i r → Jn A i r
  eq : ∀ i j, A i j → ∀ r r', Rt F i r → Rt F j r' → r = r'
theorem Uf.same {A : Nat → Nat → Prop} {n : Nat} {F : List Nat} (h : Uf A n F) (hA : ∀ i j, A i j → i < n ∧ j < n) {i j : Nat} (k : Jn A i j) : i < n → j < n ∧ ∀ r r', Rt F i r → Rt F j r' → r = r' := by
  have key : ∀ {i j}, Jn A i j → (i < n ↔ j < n) ∧ (i < n → ∀ r r', Rt F i r → Rt F j r' → r = r') := by
    intro i j k
    induction k with
    | refl i => exact ⟨Iff.rfl, fun _ r r' a b => a.uniq b⟩
    | @arc i j q => exact ⟨⟨fun _ => (hA _ _ q).2, fun _ => (hA _ _ q).1⟩, fun _ r r' a b => h.eq _ _ q r r' a b⟩
    | symm _ ih => exact ⟨ih.1.symm, fun hj r r' a b => (ih.2 (ih.1.2 hj) r' r b a).symm⟩
    | trans _ _ ih1 ih2 =>
      refine ⟨ih1.1.trans ih2.1, fun hi r r' a b => ?_⟩
      obtain ⟨s, hs⟩ := Rt.ex h.le _ (ih1.1.1 hi)
      exact (ih1.2 hi r s a hs).trans (ih2.2 (ih1.1.1 hi) s r' hs b)
  exact fun hi => ⟨(key k).1.1 hi, (key k).2 hi⟩
/-- A root is the least of those that it is joined with. -/
theorem Uf.least {A : Nat → Nat → Prop} {n : Nat} {F : List Nat} (h : Uf A n F) (hA : ∀ i j, A i j → i < n ∧ j < n) {i r : Nat} (hi : i < n) (k : Rt F i r) : Jn A i r ∧ ∀ j, Jn A i j → r ≤ j := by
  refine ⟨h.jn i r hi k, fun j hj => ?_⟩
  obtain ⟨hjn, e⟩ := h.same hA hj hi
  obtain ⟨s, hs⟩ := Rt.ex h.le j hjn
  rw [e r s k hs]
  exact hs.le h.le hjn
/-- At the beginning. -/
theorem Uf.start (n : Nat) (F : List Nat) (hl : F.length = n) (h : ∀ i, i < n → F[i]! = i) : Uf (fun _ _ => False) n F :=
  ⟨hl, fun i hi => by rw [h i hi]; exact Nat.le_refl _, fun i r hi k => by rw [k.uniq (.here (h i hi))]; exact .refl i, fun i j q => q.elim⟩
/-- A place is led nearer: the forest stays. -/
theorem Uf.halve {A : Nat → Nat → Prop} {n i : Nat} {F : List Nat} (h : Uf A n F) (hA : ∀ i j, A i j → i < n ∧ j < n) (hi : i < n) : Uf A n (F.set i F[F[i]!]!) ∧ ∀ j r, j < n → (Rt (F.set i F[F[i]!]!) j r ↔ Rt F j r) := by
  have hs : ∀ q, (F.set i F[F[i]!]!)[q]! = if q = i then F[F[i]!]! else F[q]! := fun q => getW_set (by have := h.len; omega)
  have hle : ∀ j, j < n → (F.set i F[F[i]!]!)[j]! ≤ j := fun j hj => by
    rw [hs]
    split
    · rename_i e
      have h1 := h.le i hi
      have h2 := h.le F[i]! (by omega)
      omega
    · exact h.le j hj
  have hiff : ∀ j r, j < n → (Rt (F.set i F[F[i]!]!) j r ↔ Rt F j r) := fun j r hj => by
    refine ⟨fun k => ?_, fun k => k.halve h.len h.le hi⟩
    obtain ⟨s, hs⟩ := Rt.ex h.le j hj
    rw [k.uniq (hs.halve h.len h.le hi)]
    exact hs
  refine ⟨⟨by rw [List.length_set]; exact h.len, hle, fun j r hj k => h.jn j r hj ((hiff j r hj).1 k), fun p q hpq r r' a b => ?_⟩, hiff⟩
  obtain ⟨hp, hq⟩ := hA p q hpq
  exact h.eq p q hpq r r' ((hiff p r hp).1 a) ((hiff q r' hq).1 b)
/-- One arc more. -/
theorem Uf.join {A : Nat → Nat → Prop} {n x y a b : Nat} {F : List Nat} (h : Uf A n F) (hA : ∀ i j, A i j → i < n ∧ j < n) (hx : x < n) (hy : y < n) (ha : Rt F x a) (hb : Rt F y b) : Uf (fun i j => A i j ∨ (i = x ∧ j = y)) n (F.set (max a b) (min a b)) := by
  have hal : a ≤ x := ha.le h.le hx
  have hbl : b ≤ y := hb.le h.le hy
  have hM : max a b < F.length := by rw [h.len]; omega
  have h1 : F[max a b]! = max a b := by
    rcases Nat.le_total a b with q | q
    · rw [Nat.max_eq_right q]; exact hb.root
    · rw [Nat.max_eq_left q]; exact ha.root
  have h2 : F[min a b]! = min a b := by
    rcases Nat.le_total a b with q | q
    · rw [Nat.min_eq_left q]; exact ha.root
    · rw [Nat.min_eq_right q]; exact hb.root
  have hs : ∀ q, (F.set (max a b) (min a b))[q]! = if q = max a b then min a b else F[q]! := fun q => getW_set hM
  have hab : Jn (fun i j => A i j ∨ (i = x ∧ j = y)) a b := ((((h.jn x a hx ha).mono fun _ _ q => .inl q).symm).trans (.arc (.inr ⟨rfl, rfl⟩))).trans ((h.jn y b hy hb).mono fun _ _ q => .inl q)
  have hMm : Jn (fun i j => A i j ∨ (i = x ∧ j = y)) (max a b) (min a b) := by
    rcases Nat.le_total a b with q | q
    · rw [Nat.max_eq_right q, Nat.min_eq_left q]; exact hab.symm
    · rw [Nat.max_eq_left q, Nat.min_eq_right q]; exact hab
  refine ⟨by rw [List.length_set]; exact h.len, fun i hi => ?_, fun i r hi k => ?_, fun i j hij r r' k k' => ?_⟩
  · rw [hs]
    split
    · omega
    · exact h.le i hi
  · obtain ⟨q, hq⟩ := Rt.ex h.le i hi
    rw [k.uniq (hq.join hM h1 h2)]
    have hj : Jn (fun i j => A i j ∨ (i = x ∧ j = y)) i q := (h.jn i q hi hq).mono fun _ _ q => .inl q
    split
    · rename_i e
      rw [e] at hj
      exact hj.trans hMm
    · exact hj
  · rcases hij with hij | ⟨rfl, rfl⟩
    · obtain ⟨hi, hj⟩ := hA i j hij
      obtain ⟨q, hq⟩ := Rt.ex h.le i hi
      obtain ⟨q', hq'⟩ := Rt.ex h.le j hj
      rw [k.uniq (hq.join hM h1 h2), k'.uniq (hq'.join hM h1 h2), h.eq i j hij q q' hq hq']
    · rw [k.uniq (ha.join hM h1 h2), k'.uniq (hb.join hM h1 h2)]
      rcases Nat.le_total a b with q | q
      · rw [Nat.max_eq_right q, Nat.min_eq_left q, if_pos rfl]
        split <;> rfl
      · rw [Nat.max_eq_left q, Nat.min_eq_right q, if_pos rfl]
        split <;> rfl
end
open Go.RowKit

/-- A row of places, with a cell of it. -/
theorem Rw.atN {lo fg n cap : Nat} {w : World} {F : List Nat} (h : Rw lo 3 1 w (.slice (some ⟨fg, 0, none⟩) n cap) n (F.map fun (i : Nat) => I (i : Int))) (hl : F.length = n) {m : Nat} (hm : m < n) : w.cell? ⟨fg, m, none⟩ = some (I ((F[m]! : Nat) : Int)) ∧ w.frozen? ⟨fg, m, none⟩ = false := by
  obtain ⟨g', cap', e, -, hc, -⟩ := h.cell (by omega)
  obtain ⟨_, _, ys, hy⟩ := Rw.own h (b := fg) rfl
  have eg : fg = g' := by simp at e; exact e.1
  subst eg
  refine ⟨?_, hy.frozen m⟩
  rw [hc m (by omega), List.getElem?_map, List.getElem?_eq_getElem (by omega), Hp.get_of (by omega)]
  rfl
set_option maxRecDepth 100000 in
set_option maxHeartbeats 2000000 in
theorem head_any (lo fg n cap : Nat) (W : World) (A : Nat → Nat → Prop) (hA : ∀ i j, A i j → i < n ∧ j < n) (F : List Nat) (uf : Uf A n F) (hr : Rw lo 3 1 W (.slice (some ⟨fg, 0, none⟩) n cap) n (F.map fun (i : Nat) => I (i : Int))) (i r : Nat) (hi : i < n) (k : Rt F i r) :
    Calls Tryd.prog 35 #[(.slice (some ⟨fg, 0, none⟩) n cap), I i] W fun e W' => ∃ F', e = .returned (I r) ∧ Uf A n F' ∧ (∀ j q, j < n → (Rt F' j q ↔ Rt F j q)) ∧ Rw lo 3 1 W' (.slice (some ⟨fg, 0, none⟩) n cap) n (F'.map fun (i : Nat) => I (i : Int)) ∧ Chg (fun b => b = fg) W W' := by
  have HUF := hide uf
  have HR := hide hr
  have HK := hide k
  have HI := hide hi
  have HA := hide hA
  clear uf hr k hi hA
  go_enter Tryd.func35, Tryd.ntmps35
  go_wp2_with fail
  go_loopw [1] (fun iv wr => ∃ (j : Nat) (F' : List Nat), iv = I j ∧ j < n ∧ Rt F' j r ∧ Uf A n F' ∧ (∀ j q, j < n → (Rt F' j q ↔ Rt F j q)) ∧ Rw lo 3 1 wr (.slice (some ⟨fg, 0, none⟩) n cap) n (F'.map fun (i : Nat) => I (i : Int)) ∧ Chg (fun b => b = fg) W wr) (fun iv _ => (RowKit.intOf iv).toNat)
  case atStart => exact ⟨i, F, rfl, HI.out, HK.out, HUF.out, fun _ _ _ => Iff.rfl, HR.out, Chg.refl _ _⟩
  case round =>
    obtain ⟨j, F', rfl, hj, hk, huf, hiff, hrw, hch⟩ := hrel
    have hjI : (j : Int) < n := Int.ofNat_lt.2 hj
    obtain ⟨cj, zj⟩ := hrw.atN huf.len hj
    have hle := huf.le j hj
    by_cases hroot : F'[j]! = j
    · have hrj : r = j := hk.uniq (.here hroot)
      rw [hroot] at cj
      have HF : Hid (∃ F', Ending.returned (I (j : Int)) = .returned (I (r : Int)) ∧ Uf A n F' ∧ (∀ j q, j < n → (Rt F' j q ↔ Rt F j q)) ∧ Rw lo 3 1 wr (.slice (some ⟨fg, 0, none⟩) n cap) n (F'.map fun (i : Nat) => I (i : Int)) ∧ Chg (fun b => b = fg) W wr) := ⟨F', by rw [hrj], huf, hiff, hrw, hch⟩
      clear hj hk huf hiff hrw hch hle hroot hrj
      go_wp2_with fail
      go_ret
      exact HF.out
    · obtain ⟨x, hx⟩ : ∃ x, x = F'[j]! := ⟨_, rfl⟩
      have hxj : x < j := by omega
      have hxI : (x : Int) < n := by omega
      obtain ⟨cx, -⟩ := hrw.atN huf.len (m := x) (by omega)
      obtain ⟨u2, hiff2⟩ := huf.halve HA.out hj
      obtain ⟨y, hy⟩ : ∃ y, y = F'[x]! := ⟨_, rfl⟩
      have hyx : y ≤ x := by rw [hy]; exact huf.le x (by omega)
      have hrw2 := Rw.set hrw j (by omega) (I (y : Int))
      rw [← hx, ← hy] at u2 hiff2
      rw [← hx] at cj
      rw [← hy] at cx
      have hst : (F'.set j y)[j]! = y := by rw [getW_set (by rw [huf.len]; exact hj), if_pos rfl]
      have hrw3 : Rw lo 3 1 (wr.setCell ⟨fg, j, none⟩ (I (y : Int))) (.slice (some ⟨fg, 0, none⟩) n cap) n ((F'.set j y).map fun (i : Nat) => I (i : Int)) := by rw [List.map_set]; exact hrw2
      obtain ⟨cy, -⟩ := hrw3.atN u2.len hj
      rw [hst] at cy
      have hne : ((x : Int) == (j : Int)) = false := beq_eq_false_iff_ne.2 (by omega)
      have HREL : Hid (∃ (j' : Nat) (F' : List Nat), I (y : Int) = I j' ∧ j' < n ∧ Rt F' j' r ∧ Uf A n F' ∧ (∀ j q, j < n → (Rt F' j q ↔ Rt F j q)) ∧ Rw lo 3 1 (wr.setCell ⟨fg, j, none⟩ (I (y : Int))) (.slice (some ⟨fg, 0, none⟩) n cap) n (F'.map fun (i : Nat) => I (i : Int)) ∧ Chg (fun b => b = fg) W (wr.setCell ⟨fg, j, none⟩ (I (y : Int)))) := by
        refine ⟨y, F'.set j y, rfl, by omega, ?_, u2, fun q s hq => (hiff2 q s hq).trans (hiff q s hq), hrw3, hch.trans (chg_setCell _ _ (.inl rfl))⟩
        have := ((hiff2 j r hj).2 hk).next
        rw [hst] at this
        exact this
      have HMS : Hid (y < j) := by show _ < _; omega
      clear hj hk huf hiff hrw hch hle hroot hx hxj u2 hiff2 hy hyx hrw2 hst hrw3
      go_wp2_with fail
      go_roundw
      case rel => exact HREL.out
      case measure => simp only [RowKit.intOf, Int.toNat_natCast]; exact HMS.out
end
open Go.RowKit

/-- The arcs that are gone through: those of the first i, and the first j of i's. -/
def AR (L : List (List Nat)) (i j p q : Nat) : Prop := (p < i ∧ q ∈ L[p]!) ∨ (p = i ∧ q ∈ (L[i]!).take j)
theorem AR.zero (L : List (List Nat)) : AR L 0 0 = fun _ _ => False := by
  funext p q
  simp [AR]
theorem AR.row {L : List (List Nat)} {i : Nat} : AR L i (L[i]!).length = AR L (i + 1) 0 := by
  funext p q
  simp only [AR, List.take_length, List.take_zero, List.not_mem_nil, and_false, or_false, eq_iff_iff]
  constructor
  · rintro (⟨h1, h2⟩ | ⟨rfl, h2⟩)
    · exact ⟨by omega, h2⟩
    · exact ⟨by omega, h2⟩
  · rintro ⟨h1, h2⟩
    by_cases e : p = i
    · exact .inr ⟨e, e ▸ h2⟩
    · exact .inl ⟨by omega, h2⟩
theorem AR.one {L : List (List Nat)} {i j m : Nat} (h : (L[i]!)[j]? = some m) : AR L i (j + 1) = fun p q => AR L i j p q ∨ (p = i ∧ q = m) := by
  funext p q
  have e : (L[i]!).take (j + 1) = (L[i]!).take j ++ [m] := by rw [List.take_add_one, h]; rfl
  simp only [AR, e, List.mem_append, List.mem_singleton, eq_iff_iff]
  constructor
  · rintro (h1 | ⟨h1, h2 | h2⟩)
    · exact .inl (.inl h1)
    · exact .inl (.inr ⟨h1, h2⟩)
    · exact .inr ⟨h1, h2⟩
  · rintro ((h1 | ⟨h1, h2⟩) | ⟨h1, h2⟩)
    · exact .inl h1
    · exact .inr ⟨h1, .inl h2⟩
    · exact .inr ⟨h1, .inr h2⟩
theorem AR.in_ {L : List (List Nat)} {n : Nat} (hn : L.length = n) (hin : ∀ l ∈ L, ∀ m ∈ l, m < n) {i : Nat} (j : Nat) (hi : i < n ∨ (i ≤ n ∧ j = 0)) : ∀ p q, AR L i j p q → p < n ∧ q < n := fun p q h => by
  have key : ∀ p, p < n → ∀ q ∈ L[p]!, q < n := fun p hp q hq => by
    rw [Hp.get_of (by omega)] at hq
    exact hin _ (List.getElem_mem (by omega)) q hq
  rcases h with ⟨h1, h2⟩ | ⟨rfl, h2⟩
  · exact ⟨by omega, key p (by omega) q h2⟩
  · rcases hi with hi | ⟨_, rfl⟩
    · exact ⟨hi, key p hi q (List.mem_of_mem_take h2)⟩
    · simp at h2
/-- What parts has of its own. -/
structure Pf (W w : World) (fg n : Nat) (F : List Nat) : Prop where
  g : G W w
  row : Rw W.heap.size 3 1 w (.slice (some ⟨fg, 0, none⟩) n n) n (F.map fun (i : Nat) => I (i : Int))
  len : F.length = n
theorem Pf.G {W w w' : World} {fg n : Nat} {F : List Nat} (h : Pf W w fg n F) (g : Go.Proofs.YtemkilffagjmcaaDoor.G w w') : Pf W w' fg n F := ⟨h.g.trans g, Rw.G h.row g, h.len⟩
theorem Pf.set {W w : World} {fg n : Nat} {F : List Nat} (h : Pf W w fg n F) {m : Nat} (hm : m < n) (x : Nat) : Pf W (w.setCell ⟨fg, m, none⟩ (I (x : Int))) fg n (F.set m x) := by
  refine ⟨h.g.setCell (Rw.own h.row (b := fg) rfl).1 _, ?_, by rw [List.length_set]; exact h.len⟩
  rw [List.map_set]
  exact Rw.set h.row m (by omega) (I (x : Int))
theorem Pf.chg {W w w' : World} {fg n : Nat} {F F' : List Nat} (h : Pf W w fg n F) (c : Chg (fun b => b = fg) w w') (hr : Rw W.heap.size 3 1 w' (.slice (some ⟨fg, 0, none⟩) n n) n (F'.map fun (i : Nat) => I (i : Int))) (hl : F'.length = n) : Pf W w' fg n F' := ⟨h.g.trans' c (fun b e => by rw [e]; exact (Rw.own h.row (b := fg) rfl).1), hr, hl⟩
/-- What parts tells. -/
def PtPost (W : World) (ids : List Int) (L : List (List Nat)) (e : Ending) (W' : World) : Prop := ∃ (fg : Nat) (F : List Nat), e = .returned (.slice (some ⟨fg, 0, none⟩) ids.length ids.length) ∧ G W W' ∧ W.heap.size ≤ fg ∧ Rw W.heap.size 3 1 W' (.slice (some ⟨fg, 0, none⟩) ids.length ids.length) ids.length (F.map fun (i : Nat) => I (i : Int)) ∧ F.length = ids.length ∧ ∀ i, i < ids.length → Jn (AR L L.length 0) i F[i]! ∧ ∀ j, Jn (AR L L.length 0) i j → F[i]! ≤ j
set_option maxRecDepth 100000 in
set_option maxHeartbeats 4000000 in
theorem parts_any (W : World) (lo pb mb : Nat) (iv ov : Value) (ids : List Int) (gm : Int → Option Value) (L : List (List Nat)) (hpc : Pc lo W pb mb iv ov ids gm L) (hn : L.length = ids.length) (hb : ids.length ≤ 4096) (hLl : ∀ l ∈ L, l.length ≤ 1048576) (hin : ∀ l ∈ L, ∀ m ∈ l, m < ids.length) :
    Calls Tryd.prog 22 #[ptr pb] W (PtPost W ids L) := by
  obtain ⟨ia, ic, rfl⟩ := Rw.form hpc.ids
  obtain ⟨vs, hvs, hvr⟩ := hpc.arc
  obtain ⟨oa, oc, rfl⟩ := Rw.form hvs
  obtain ⟨i0, hi, hz0, hz1, hz2⟩ := info_N
  have hmx : (4096 : Nat) ≤ maxLen := of_decide_eq_true (by kernel_rfl)
  have hmk := run_make (P := Tryd.prog) W 62 3 i0 (I 0) Tryd.underlying62 hi hz0 .i64 .i64 (ids.length : Int) (ids.length : Int) (by omega) (by omega) (by rw [hz2]; omega) (by omega)
  rw [hz1, made_i, Nat.mul_one, show ((ids.length : Int)).toNat = ids.length by omega] at hmk
  have hG1 : G W (W.alloc (.cells (List.replicate ids.length (I 0)).toArray 3)) := (G.refl W).alloc _
  have hR1 := rw_mw W W.heap.size ids.length (by omega) (Nat.le_refl _)
  have hvl : vs.length = L.length := by have := hvs.1; omega
  have HVS := hide hvs
  have HVR := hide hvr
  have HVL := hide hvl
  have cp := hpc.blk.cell
  have cp1 := (hpc.blk.G hG1).cell
  have HMK := hide hmk
  have HR1 := hide hR1
  have HG1 := hide hG1
  have HPC := hide hpc
  have HN := hide hn
  have HB := hide hb
  have HLL := hide hLl
  have HIN := hide hin
  clear hmk hG1 hR1 hpc hi hz0 hz1 hz2 hn hb hLl hin hmx hvs hvr hvl
  generalize (W.alloc (.cells (List.replicate ids.length (I 0)).toArray 3)) = w1 at *
  obtain ⟨fg, hfg⟩ : ∃ fg, fg = W.heap.size := ⟨_, rfl⟩
  have HFG := hide hfg
  rw [← hfg] at HMK
  have HR2 : Hid (Rw W.heap.size 3 1 w1 (.slice (some ⟨fg, 0, none⟩) ids.length ids.length) ids.length ((List.replicate ids.length 0).map fun (i : Nat) => I (i : Int))) := by
    rw [hfg]
    exact HR1.out
  clear hfg HR1
  go_enter Tryd.func22, Tryd.ntmps22
  go_wp2_with fail
  rw [HMK.out]
  clear cp HMK
  go_wp2_with fail
  have HPF : Hid (Pf W w1 fg ids.length (List.replicate ids.length 0)) := ⟨HG1.out, HR2.out, List.length_replicate⟩
  clear HR2 HG1 cp1
  go_loopw [20] (fun kv wr => ∃ (i : Nat) (F : List Nat), kv = I i ∧ i ≤ ids.length ∧ Pf W wr fg ids.length F ∧ ∀ m, m < i → F[m]! = m) (fun kv _ => ids.length - (RowKit.intOf kv).toNat)
  case atStart => exact ⟨0, _, rfl, Nat.zero_le _, HPF.out, fun m hm => absurd hm (by omega)⟩
  case round =>
    obtain ⟨i, F, rfl, hi, hpf, hF⟩ := hrel
    by_cases hil : i < ids.length
    · have hiI : (i : Int) < ids.length := Int.ofNat_lt.2 hil
      obtain ⟨ci, zi⟩ := hpf.row.atN hpf.len hil
      have hwi : wrap64 ((i : Int) + 1) = (i : Int) + 1 := wone5 i (by have := HB.out; omega)
      have HP2 := hide (hpf.set hil i)
      have HF2 : Hid (∀ m, m < i + 1 → (F.set i i)[m]! = m) := fun m hm => by
        rw [getW_set (by rw [hpf.len]; exact hil)]
        split
        · rename_i e; exact e.symm
        · exact hF m (by omega)
      have HIL := hide hil
      clear hi hpf hF hil
      go_wp2_with fail
      go_roundw
      case rel => (try rw [hwi]); exact ⟨i + 1, _, by simp, HIL.out, HP2.out, HF2.out⟩
      case measure => (try rw [hwi]); simp only [RowKit.intOf]; exact ms5 HIL.out
    · have hiI : ¬ ((i : Int) < ids.length) := fun h => hil (Int.ofNat_lt.1 h)
      obtain rfl : i = ids.length := Nat.le_antisymm hi (Nat.le_of_not_lt hil)
      have HUF : Hid (Uf (AR L 0 0) ids.length F) := by
        rw [AR.zero]
        exact Uf.start _ F hpf.len hF
      have HP2 := hide hpf
      have cp2 := (HPC.out.blk.G hpf.g).cell
      clear hi hpf hF hil HPF
      go_wp2_with fail
      clear cp2
      go_loopw [33] (fun kv wr => ∃ (i : Nat) (F : List Nat), kv = I i ∧ i ≤ L.length ∧ Pf W wr fg ids.length F ∧ Uf (AR L i 0) ids.length F) (fun kv _ => L.length - (RowKit.intOf kv).toNat)
      case atStart => exact ⟨0, _, rfl, Nat.zero_le _, HP2.out, HUF.out⟩
      case round =>
        obtain ⟨i, F2, rfl, hi, hpf, huf⟩ := hrel
        by_cases hil : i < L.length
        · have hiI : (i : Int) < L.length := Int.ofNat_lt.2 hil
          obtain ⟨l, hl⟩ : ∃ l, L[i]? = some l := ⟨_, List.getElem?_eq_getElem hil⟩
          obtain ⟨lv, hlv⟩ : ∃ lv, vs[i]? = some lv := ⟨_, List.getElem?_eq_getElem (by rw [HVL.out]; exact hil)⟩
          obtain ⟨go, capo, heo, -, hco, -⟩ := (Rw.G HVS.out hpf.g).cell (by omega)
          obtain ⟨rfl, rfl⟩ : oa = some ⟨go, 0, none⟩ ∧ oc = capo := by simp at heo; exact heo
          have co : wr.cell? ⟨go, i, none⟩ = some lv := by rw [hco i (by omega)]; exact hlv
          have hwi : wrap64 ((i : Int) + 1) = (i : Int) + 1 := wone5 i (by have := HB.out; have := HN.out; omega)
          have HROW := hide (HVR.out i lv l hlv hl)
          have HLN := hide (HLL.out l (List.mem_of_getElem? hl))
          have HLI := hide (HIN.out l (List.mem_of_getElem? hl))
          have HEL : Hid (L[i]! = l) := by show _ = _; simp [hl]
          have HIL := hide hil
          have HIN2 : Hid (i < ids.length) := by show _ < _; rw [← HN.out]; exact hil
          have HP3 := hide hpf
          have HU3 := hide huf
          obtain ⟨ta, tc, rfl⟩ := Rw.form (HVR.out i lv l hlv hl)
          clear hi hpf huf hil hl hlv heo hco
          go_wp2_with fail
          go_loopw [40] (fun jv w2 => ∃ (j : Nat) (F : List Nat), jv = I j ∧ j ≤ l.length ∧ Pf W w2 fg ids.length F ∧ Uf (AR L i j) ids.length F) (fun jv _ => l.length - (RowKit.intOf jv).toNat)
          case atStart => exact ⟨0, _, rfl, Nat.zero_le _, HP3.out, HU3.out⟩
          case round =>
            obtain ⟨j, F4, rfl, hj, hpf4, huf4⟩ := hrel
            by_cases hjl : j < l.length
            · have hjI : (j : Int) < l.length := Int.ofNat_lt.2 hjl
              obtain ⟨k, hk⟩ : ∃ k, l[j]? = some k := ⟨_, List.getElem?_eq_getElem hjl⟩
              have hkn : k < ids.length := HLI.out k (List.mem_of_getElem? hk)
              obtain ⟨gt, capt, het, -, hct, -⟩ := (Rw.G HROW.out hpf4.g).cell (by omega)
              obtain ⟨rfl, rfl⟩ : ta = some ⟨gt, 0, none⟩ ∧ tc = capt := by simp at het; exact het
              have ct : wr.cell? ⟨gt, j, none⟩ = some (I (k : Int)) := by rw [hct j (by omega), List.getElem?_map, hk]; rfl
              have hwj : wrap64 ((j : Int) + 1) = (j : Int) + 1 := wone5 j (by have := HLN.out; omega)
              have HARI : Hid (∀ p q, AR L i j p q → p < ids.length ∧ q < ids.length) := AR.in_ HN.out HIN.out j (.inl HIN2.out)
              obtain ⟨a, ha⟩ := Rt.ex huf4.le i HIN2.out
              obtain ⟨b, hb⟩ := Rt.ex huf4.le k hkn
              have HHA := hide (head_any W.heap.size fg ids.length ids.length wr (AR L i j) HARI.out F4 huf4 hpf4.row i a HIN2.out ha)
              have HA4 := hide ha
              have HB4 := hide hb
              have HP4 := hide hpf4
              have HU4 := hide huf4
              have HJL := hide hjl
              have HK := hide hk
              have HKN := hide hkn
              clear hj hpf4 huf4 hjl hk hkn het hct ha hb
              go_wp2_with fail
              refine HHA.out.mono ?_
              rintro e w5 ⟨F5, rfl, huf5, hif5, hrw5, hch5⟩
              have HP5 := hide (HP4.out.chg hch5 hrw5 huf5.len)
              have HHB := hide (head_any W.heap.size fg ids.length ids.length w5 (AR L i j) HARI.out F5 huf5 hrw5 k b HKN.out ((hif5 k b HKN.out).2 HB4.out))
              have HA5 := hide ((hif5 i a HIN2.out).2 HA4.out)
              have HB5 := hide ((hif5 k b HKN.out).2 HB4.out)
              clear huf5 hif5 hrw5 hch5 HHA
              go_wp2_with fail
              refine HHB.out.mono ?_
              rintro e w6 ⟨F6, rfl, huf6, hif6, hrw6, hch6⟩
              have hpf6 := HP5.out.chg hch6 hrw6 huf6.len
              have ha6 := (hif6 i a HIN2.out).2 HA5.out
              have hb6 := (hif6 k b HKN.out).2 HB5.out
              have hal : a ≤ i := ha6.le huf6.le HIN2.out
              have hbl : b ≤ k := hb6.le huf6.le HKN.out
              have hMn : max a b < ids.length := by have := HIN2.out; have := HKN.out; omega
              have hMI : ((max a b : Nat) : Int) < ids.length := Int.ofNat_lt.2 hMn
              have hMe : max (a : Int) (b : Int) = ((max a b : Nat) : Int) := by omega
              have hme : min (a : Int) (b : Int) = ((min a b : Nat) : Int) := by omega
              obtain ⟨cM, zM⟩ := hpf6.row.atN hpf6.len hMn
              have HREL : Hid (∃ (j' : Nat) (F : List Nat), I ((j : Int) + 1) = I j' ∧ j' ≤ l.length ∧ Pf W (w6.setCell ⟨fg, max a b, none⟩ (I ((min a b : Nat) : Int))) fg ids.length F ∧ Uf (AR L i j') ids.length F) := by
                refine ⟨j + 1, F6.set (max a b) (min a b), by simp, HJL.out, hpf6.set hMn _, ?_⟩
                rw [AR.one (m := k) (by rw [HEL.out]; exact HK.out)]
                exact huf6.join HARI.out HIN2.out HKN.out ha6 hb6
              clear huf6 hif6 hrw6 hch6 hpf6 ha6 hb6 hal hbl hMn HHB
              go_wp2_with fail
              go_roundw
              case rel => (try rw [hwj]); exact HREL.out
              case measure => (try rw [hwj]); simp only [RowKit.intOf]; exact ms5 HJL.out
            · have hjI : ¬ ((j : Int) < l.length) := fun h => hjl (Int.ofNat_lt.1 h)
              obtain rfl : j = l.length := Nat.le_antisymm hj (Nat.le_of_not_lt hjl)
              have HREL : Hid (∃ (i' : Nat) (F : List Nat), I ((i : Int) + 1) = I i' ∧ i' ≤ L.length ∧ Pf W wr fg ids.length F ∧ Uf (AR L i' 0) ids.length F) := by
                refine ⟨i + 1, F4, by simp, HIL.out, hpf4, ?_⟩
                rw [← AR.row, HEL.out]
                exact huf4
              clear hj hpf4 huf4 hjl
              go_wp2_with fail
              go_roundw
              case rel => (try rw [hwi]); exact HREL.out
              case measure => (try rw [hwi]); simp only [RowKit.intOf]; exact ms5 HIL.out
        · have hiI : ¬ ((i : Int) < L.length) := fun h => hil (Int.ofNat_lt.1 h)
          obtain rfl : i = L.length := Nat.le_antisymm hi (Nat.le_of_not_lt hil)
          have HARI : Hid (∀ p q, AR L L.length 0 p q → p < ids.length ∧ q < ids.length) := AR.in_ HN.out HIN.out 0 (.inr ⟨Nat.le_of_eq HN.out, rfl⟩)
          have HP3 := hide hpf
          have HU3 := hide huf
          clear hi hpf huf hil
          go_wp2_with fail
          go_loopw [62] (fun kv wr => ∃ (i : Nat) (F : List Nat), kv = I i ∧ i ≤ ids.length ∧ Pf W wr fg ids.length F ∧ (∀ m, m < i → Rt F2 m F[m]!) ∧ (∀ m, i ≤ m → m < ids.length → F[m]! = F2[m]!)) (fun kv _ => ids.length - (RowKit.intOf kv).toNat)
          case atStart => exact ⟨0, _, rfl, Nat.zero_le _, HP3.out, fun m hm => absurd hm (by omega), fun _ _ _ => rfl⟩
          case round =>
            obtain ⟨i, F7, rfl, hi, hpf, hlo, hhi⟩ := hrel
            by_cases hil : i < ids.length
            · have hiI : (i : Int) < ids.length := Int.ofNat_lt.2 hil
              obtain ⟨ci, zi⟩ := hpf.row.atN hpf.len hil
              have hx0 : F7[i]! = F2[i]! := hhi i (Nat.le_refl _) hil
              have hxle : F2[i]! ≤ i := HU3.out.le i hil
              obtain ⟨x, hx⟩ : ∃ x, x = F7[i]! := ⟨_, rfl⟩
              have hxi : x ≤ i := by omega
              have hxI : (x : Int) < ids.length := by omega
              obtain ⟨cx, -⟩ := hpf.row.atN hpf.len (m := x) (by omega)
              have hwi : wrap64 ((i : Int) + 1) = (i : Int) + 1 := wone5 i (by have := HB.out; omega)
              have hrt : Rt F2 i F7[x]! := by
                by_cases e : x = i
                · rw [e, hx0]
                  have e2 : F2[i]! = i := by omega
                  rw [e2]
                  exact .here e2
                · refine .on (by omega) ?_
                  rw [← hx0, ← hx]
                  exact hlo x (by omega)
              obtain ⟨y, hy⟩ : ∃ y, y = F7[x]! := ⟨_, rfl⟩
              rw [← hx] at ci
              rw [← hy] at cx hrt
              have HREL : Hid (∃ (i' : Nat) (F : List Nat), I ((i : Int) + 1) = I i' ∧ i' ≤ ids.length ∧ Pf W (wr.setCell ⟨fg, i, none⟩ (I (y : Int))) fg ids.length F ∧ (∀ m, m < i' → Rt F2 m F[m]!) ∧ (∀ m, i' ≤ m → m < ids.length → F[m]! = F2[m]!)) := by
                have hs : ∀ q, (F7.set i y)[q]! = if q = i then y else F7[q]! := fun q => getW_set (by rw [hpf.len]; exact hil)
                refine ⟨i + 1, F7.set i y, by simp, hil, hpf.set hil y, fun m hm => ?_, fun m h1 h2 => ?_⟩
                · rw [hs]
                  split
                  · rename_i e; rw [e]; exact hrt
                  · exact hlo m (by omega)
                · rw [hs, if_neg (by omega)]
                  exact hhi m (by omega) h2
              have HIL := hide hil
              clear hi hpf hlo hhi hil hx0 hxle hx hxi hrt hy
              go_wp2_with fail
              go_roundw
              case rel => (try rw [hwi]); exact HREL.out
              case measure => (try rw [hwi]); simp only [RowKit.intOf]; exact ms5 HIL.out
            · have hiI : ¬ ((i : Int) < ids.length) := fun h => hil (Int.ofNat_lt.1 h)
              obtain rfl : i = ids.length := Nat.le_antisymm hi (Nat.le_of_not_lt hil)
              have HF : Hid (G W wr ∧ W.heap.size ≤ fg ∧ Rw W.heap.size 3 1 wr (.slice (some ⟨fg, 0, none⟩) ids.length ids.length) ids.length (F7.map fun (i : Nat) => I (i : Int)) ∧ F7.length = ids.length ∧ ∀ i, i < ids.length → Jn (AR L L.length 0) i F7[i]! ∧ ∀ j, Jn (AR L L.length 0) i j → F7[i]! ≤ j) :=
                ⟨hpf.g, Nat.le_of_eq HFG.out.symm, hpf.row, hpf.len, fun i hi => HU3.out.least HARI.out hi (hlo i hi)⟩
              clear hi hpf hlo hhi hil
              go_wp2_with fail
              go_ret
              exact ⟨fg, F7, rfl, HF.out⟩
end Go.Proofs.YtemkilffagjmcaaDoor
