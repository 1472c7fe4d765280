/- Paths: the document's each and place. -/
import Derived.Test.YtemkilffagjmcaaDoorPz5
import Derived.BigRegion
namespace Go.Proofs.YtemkilffagjmcaaDoor
open Go.RowKit

/-- The place of an id, or -1. -/
def plI (ids : List Int) (n : Int) : Int := match atI ids n with | some j => (j : Int) | none => -1
theorem wone5 (i : Nat) (h : i ≤ 17179869184) : wrap64 ((i : Int) + 1) = (i : Int) + 1 := by unfold wrap64; omega
set_option maxRecDepth 100000 in
set_option maxHeartbeats 4000000 in
theorem place_any (lo : Nat) (W : World) (v : Value) (ids : List Int) (h : Rw lo 2 1 W v ids.length (ids.map I)) (hp : ids.Pairwise (· < ·)) (hl : ids.length ≤ 1048576) (id : Int) :
    Calls Tryd.prog 24 #[v, I id] W fun e W' => e = .returned (I (plI ids id)) ∧ G W W' := by
  obtain ⟨va, vc, rfl⟩ := Rw.form h
  have H := hide h
  have HP := hide hp
  have HL := hide hl
  clear h hp hl
  go_enter Tryd.func24, Tryd.ntmps24
  go_wp2_with fail
  go_loopw [5] (fun iv wr => ∃ i : Nat, iv = I i ∧ i ≤ ids.length ∧ G W wr ∧ ∀ j : Nat, j < i → ids[j]? ≠ some id) (fun iv _ => ids.length - (RowKit.intOf iv).toNat)
  case atStart => exact ⟨0, rfl, Nat.zero_le _, G.refl _, fun j h => absurd h (by omega)⟩
  case round =>
    obtain ⟨i, rfl, hi, hg, hno⟩ := hrel
    by_cases hil : i < ids.length
    · have hiI : (i : Int) < ids.length := Int.ofNat_lt.2 hil
      obtain ⟨n, hn⟩ : ∃ n, ids[i]? = some n := ⟨_, List.getElem?_eq_getElem hil⟩
      obtain ⟨g, cap, hee, -, hce, -⟩ := (Rw.G H.out hg).cell (by omega)
      obtain ⟨rfl, rfl⟩ : va = some ⟨g, 0, none⟩ ∧ vc = cap := by simp at hee; exact hee
      have ci : wr.cell? ⟨g, i, none⟩ = some (I n) := by rw [hce i (by omega), List.getElem?_map, hn]; rfl
      have hwi : wrap64 ((i : Int) + 1) = (i : Int) + 1 := wone5 i (Nat.le_trans (Nat.le_of_lt hil) (Nat.le_trans HL.out (by decide)))
      have HG := hide hg
      have HIL := hide hil
      have HN := hide hn
      have HNO := hide hno
      clear hi hg hno hil hn hee hce
      by_cases he : n = id
      · have heb : (n == id) = true := by simpa using he
        have HE : Hid (plI ids id = (i : Int)) := by
          show _ = _
          unfold plI
          rw [atI_get HP.out (by rw [← he]; exact HN.out)]
        clear he
        go_wp2_with fail
        go_ret
        rw [HE.out]
        exact ⟨rfl, HG.out⟩
      · have heb : (n == id) = false := beq_eq_false_iff_ne.2 he
        have HREL : Hid (∀ j : Nat, j < i + 1 → ids[j]? ≠ some id) := fun j hj => by
          by_cases e : j = i
          · rw [e, HN.out]
            exact fun q => he (Option.some.inj q)
          · exact HNO.out j (by omega)
        clear he
        go_wp2_with fail
        go_roundw
        case rel => (try rw [hwi]); exact ⟨i + 1, by simp, HIL.out, HG.out, HREL.out⟩
        case measure => (try rw [hwi]); simp only [RowKit.intOf]; exact ms5 HIL.out
    · have hiI : ¬ ((i : Int) < ids.length) := fun h => hil (Int.ofNat_lt.1 h)
      have HE : Hid (plI ids id = -1) := by
        show _ = _
        unfold plI
        rw [atI_none.2 (fun hm => by
          obtain ⟨j, hj, e⟩ := List.getElem_of_mem hm
          exact hno j (by omega) (by rw [List.getElem?_eq_getElem hj, e]))]
      have HG := hide hg
      clear hi hg hno hil
      go_wp2_with fail
      go_ret
      rw [HE.out]
      exact ⟨rfl, HG.out⟩
/-- An id comes into a rising list, if it is not there. -/
def insU (x : Int) : List Int → List Int
  | [] => [x]
  | y :: r => if x < y then x :: y :: r else if x = y then y :: r else y :: insU x r
theorem insU_mem {x : Int} : ∀ {l : List Int} {a : Int}, a ∈ insU x l ↔ a = x ∨ a ∈ l
  | [], a => by simp [insU]
  | y :: r, a => by
    unfold insU
    split
    · simp
    · split
      · rename_i h; subst h; simp
      · rw [List.mem_cons, insU_mem, List.mem_cons]
        constructor
        · rintro (h | h | h) <;> simp [h]
        · rintro (h | h | h) <;> simp [h]
theorem insU_up {x : Int} : ∀ {l : List Int}, l.Pairwise (· < ·) → (insU x l).Pairwise (· < ·)
  | [], _ => by simp [insU]
  | y :: r, h => by
    obtain ⟨h1, h2⟩ := List.pairwise_cons.1 h
    unfold insU
    split
    · rename_i hxy
      exact List.pairwise_cons.2 ⟨fun a ha => by
        rcases List.mem_cons.1 ha with rfl | q
        · exact hxy
        · have := h1 a q; omega, h⟩
    · split
      · exact h
      · exact List.pairwise_cons.2 ⟨fun a ha => by
          rcases insU_mem.1 ha with rfl | q
          · omega
          · exact h1 a q, insU_up h2⟩
/-- Where it comes in. -/
theorem insU_new {x : Int} : ∀ {l : List Int} {k : Nat}, k ≤ l.length → (∀ j y, j < k → l[j]? = some y → y < x) → (∀ y, l[k]? = some y → x < y) → insU x l = l.take k ++ x :: l.drop k
  | [], k, hk, _, _ => by simp at hk; subst hk; rfl
  | y :: r, 0, _, _, h2 => by
    unfold insU
    rw [if_pos (h2 y rfl)]
    rfl
  | y :: r, k + 1, hk, h1, h2 => by
    have hy := h1 0 y (by omega) rfl
    unfold insU
    rw [if_neg (by omega), if_neg (by omega), insU_new (k := k) (by simpa using hk) (fun j z hj hz => h1 (j + 1) z (by omega) (by simpa using hz)) (fun z hz => h2 z (by simpa using hz))]
    rfl
theorem insU_old {x : Int} : ∀ {l : List Int} {k : Nat}, (∀ j y, j < k → l[j]? = some y → y < x) → l[k]? = some x → insU x l = l
  | [], k, _, h => by simp at h
  | y :: r, 0, _, h => by
    simp at h
    unfold insU
    rw [if_neg (by omega), if_pos h.symm]
  | y :: r, k + 1, h1, h => by
    have hy := h1 0 y (by omega) rfl
    unfold insU
    rw [if_neg (by omega), if_neg (by omega), insU_old (k := k) (fun j z hj hz => h1 (j + 1) z (by omega) (by simpa using hz)) (by simpa using h)]
theorem insU_len {x : Int} : ∀ {l : List Int}, (insU x l).length ≤ l.length + 1
  | [] => by simp [insU]
  | y :: r => by
    unfold insU
    split
    · simp
    · split
      · simp
      · have := insU_len (x := x) (l := r)
        simp
        omega
/-- The unlike ids, rising. -/
def eachL : List Int → List Int
  | [] => []
  | l => l.foldl (fun o x => insU x o) []
theorem eachL_eq (l : List Int) : eachL l = l.foldl (fun o x => insU x o) [] := by cases l <;> rfl
theorem eachL_snoc (l : List Int) (x : Int) : eachL (l ++ [x]) = insU x (eachL l) := by rw [eachL_eq, eachL_eq, List.foldl_append]; rfl
theorem eachL_take {l : List Int} {i : Nat} {x : Int} (h : l[i]? = some x) : eachL (l.take (i + 1)) = insU x (eachL (l.take i)) := by
  rw [List.take_add_one, h]
  exact eachL_snoc _ _
theorem fold_up : ∀ (l o : List Int), o.Pairwise (· < ·) → (l.foldl (fun o x => insU x o) o).Pairwise (· < ·)
  | [], _, h => h
  | x :: l, o, h => fold_up l (insU x o) (insU_up h)
theorem fold_mem {a : Int} : ∀ (l o : List Int), a ∈ l.foldl (fun o x => insU x o) o ↔ a ∈ o ∨ a ∈ l
  | [], o => by simp
  | x :: l, o => by
    rw [List.foldl_cons, fold_mem l, insU_mem, List.mem_cons]
    constructor
    · rintro ((h | h) | h) <;> simp [h]
    · rintro (h | h | h) <;> simp [h]
theorem fold_len : ∀ (l o : List Int), (l.foldl (fun o x => insU x o) o).length ≤ o.length + l.length
  | [], o => by simp
  | x :: l, o => by
    have := fold_len l (insU x o)
    have := insU_len (x := x) (l := o)
    simp
    omega
theorem eachL_up (l : List Int) : (eachL l).Pairwise (· < ·) := by rw [eachL_eq]; exact fold_up l [] .nil
theorem eachL_mem {l : List Int} {a : Int} : a ∈ eachL l ↔ a ∈ l := by rw [eachL_eq, fold_mem]; simp
theorem eachL_len (l : List Int) : (eachL l).length ≤ l.length := by rw [eachL_eq]; have := fold_len l []; simpa using this
end Go.Proofs.YtemkilffagjmcaaDoor
