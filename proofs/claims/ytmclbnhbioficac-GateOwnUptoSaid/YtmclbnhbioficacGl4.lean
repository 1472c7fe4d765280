/- GateOrder: the thought; same of lists wherever they begin. -/
import Derived.Test.YtmclbnhbioficacGl2
namespace Go.Proofs.Ytmclbnhbioficac
open Go.RowKit

theorem adm_q : ∀ (n : Nat) (m : GM), m.qids = (m.adm n).1 ++ (m.adm n).2.qids
  | 0, m => by simp [GM.adm]
  | n + 1, m => by
    unfold GM.adm
    cases hq : m.q with
    | nil => simp
    | cons x t =>
      by_cases hr : m.room = true
      · simp only [hr, if_true, List.cons_append]
        rw [← adm_q n (m.ent x t)]
        simp [GM.qids, GM.ent, hq]
      · simp [hr]
/-- Who queues behind a step that is no Submit. -/
theorem step_q (m : GM) (k id : Int) (y : Bool) (h : k ≠ 1) : m.qids = m.doL k ++ (m.stepM k id y).qids ∧ (m.stepM k id y).sp = m.sp := by
  unfold GM.stepM GM.doL
  rw [if_neg h]
  by_cases h2 : k = 2
  · rw [if_pos h2, if_pos h2]
    exact ⟨adm_q _ _, (adm_keeps m.q.length m).1⟩
  · rw [if_neg h2, if_neg h2]
    by_cases h3 : k = 3
    · rw [if_pos h3]
      unfold GM.endM
      split <;> simp [GM.gone, GM.qids]
    · rw [if_neg h3]
      by_cases h4 : k = 4
      · rw [if_pos h4]; simp [GM.qids]
      · rw [if_neg h4]
        by_cases h6 : k = 6
        · rw [if_pos h6]
          unfold GM.pickM
          split
          · simp [GM.pick0, GM.qids]
          · split <;> simp [GM.pick, GM.qids]
        · rw [if_neg h6]; simp
theorem sub_cases (m : GM) (id : Int) : (m.subA id = (m.sp + 1, 0) ∧ m.subM id = m.sub id) ∨ (∃ c, m.subA id = (0, c) ∧ c ≠ 0 ∧ m.subM id = m) := by
  unfold GM.subA GM.subM
  split
  · exact .inr ⟨1, rfl, by decide, rfl⟩
  · split
    · exact .inr ⟨151, rfl, by decide, rfl⟩
    · split
      · exact .inr ⟨153, rfl, by decide, rfl⟩
      · exact .inl ⟨rfl, rfl⟩
/-- A slice of these numbers, wherever it begins. -/
def RowI (w : World) (v : Value) (l : List Int) : Prop := ∃ a c, v = .slice a l.length c ∧ (l = [] ∨ ∃ g off, a = some ⟨g, off, none⟩ ∧ ∀ (i : Nat) (x : Int), l[i]? = some x → w.cell? ⟨g, off + i, none⟩ = some (I x))
theorem RowI.G {w w' : World} {v : Value} {l : List Int} (h : RowI w v l) (k : Go.Proofs.Ytmclbnhbioficac.G w w') : RowI w' v l := by
  obtain ⟨a, c, rfl, h⟩ := h
  refine ⟨a, c, rfl, ?_⟩
  rcases h with h | ⟨g, off, e, h⟩
  · exact .inl h
  · exact .inr ⟨g, off, e, fun i x hx => by rw [k.cell (cell_lt (h i x hx))]; exact h i x hx⟩
theorem RowI.of {w : World} {v : Value} {l : List Int} (h : SwI w v l) : RowI w v l := by
  rcases h with ⟨rfl, rfl⟩ | ⟨g, cap, rest, rfl, hb, hr⟩
  · exact ⟨none, 0, rfl, .inl rfl⟩
  · have h : SwI w (.slice (some ⟨g, 0, none⟩) l.length cap) l := .inr ⟨g, cap, rest, rfl, hb, hr⟩
    refine ⟨_, cap, rfl, .inr ⟨g, 0, rfl, fun i x hx => ?_⟩⟩
    have := h.at hx 0 (by decide)
    rw [Nat.zero_add]
    simpa using this
set_option maxRecDepth 100000 in
set_option maxHeartbeats 1000000 in
theorem same_gen (l : List Int) (u v : Value) (W : World) (h : RowI W u l) (k : RowI W v l) (hm : l.length ≤ 9000000000000) :
    Calls Try.prog 7 #[u, v] W fun e W' => e = .returned (.bool true) ∧ G W W' := by
  have HS := hide h
  have HS2 := hide k
  obtain ⟨a, c, rfl, -⟩ := h
  obtain ⟨a2, c2, rfl, -⟩ := k
  have HM := hide hm
  clear hm
  go_enter Try.func7, Try.ntmps7
  go_wp2_with fail
  go_loopw [5] (fun iv wr => ∃ i : Nat, iv = I i ∧ i ≤ l.length ∧ G W wr) (fun iv _ => l.length - (RowKit.intOf iv).toNat)
  case atStart => exact ⟨0, rfl, Nat.zero_le _, G.refl _⟩
  case round =>
    obtain ⟨i, rfl, hik, hg⟩ := hrel
    have HG := hide hg
    by_cases hil : i < l.length
    · obtain ⟨y, hy⟩ : ∃ y, l[i]? = some y := ⟨_, List.getElem?_eq_getElem hil⟩
      obtain ⟨_, _, q, q'⟩ := HS.out.G hg
      injection q with q1 q2 q3
      subst q1 q3
      obtain ⟨_, _, r, r'⟩ := HS2.out.G hg
      injection r with q1 q4 q3
      subst q1 q3
      obtain ⟨g, o1, rfl, x1⟩ := q'.resolve_left (fun e => by rw [e] at hil; simp at hil)
      obtain ⟨g', o2, rfl, x2⟩ := r'.resolve_left (fun e => by rw [e] at hil; simp at hil)
      replace x1 := x1 i y hy
      replace x2 := x2 i y hy
      have i1 : (i : Int) < l.length := Int.ofNat_lt.2 hil
      have HR : Hid (i + 1 ≤ l.length) := by show _ ≤ _; omega
      have HW : Hid (wrap64 ((i : Int) + 1) = (i : Int) + 1) := by show _ = _; have := HM.out; unfold wrap64; omega
      have HMS : Hid (i < l.length) := hil
      clear hik hil hy q2 q4 hg q' r'
      go_wp2_with fail
      go_quiet (fail)
      go_wp2_with fail
      rw [HW.out]
      go_roundw
      case rel => exact ⟨i + 1, rfl, HR.out, HG.out.drewN _⟩
      case measure => simp only [RowKit.intOf]; have := HMS.out; omega
    · have i1 : ¬ ((i : Int) < l.length) := by omega
      clear hik hil hg
      go_wp2_with fail
      go_ret
      exact ⟨rfl, HG.out⟩
/-- What is known between two steps: came: who was taken, in order; ent: how many of them have entered. -/
structure Od (W wr : World) (b : Nat) (i : Nat) (cv : Value) (came : List Int) (ent : Nat) (m : GM) (K : Nat → Prop) : Prop where
  p : PG wr b 0 m K
  g : G W wr
  k : ∀ j, K j → W.heap.size ≤ j
  iv : Iv m
  sp : m.sp = came.length + 1
  ck : m.ck ≤ i
  q : m.qids = came.drop ent
  le : ent ≤ came.length
  ln : came.length ≤ i
  c : SwI wr cv came
  fr : Fresh W cv
  no : ∀ j, cv.ownBlock = some j → ¬ K j
theorem Od.row {W wr : World} {b i : Nat} {cv : Value} {came : List Int} {ent : Nat} {m : GM} {K : Nat → Prop} (h : Od W wr b i cv came ent m K) {w' : World} {m' : GM} {K' : Nat → Prop} (_hp : PG w' b 0 m' K') (hs : Ste K wr K' w') : G W w' ∧ (∀ j, K' j → W.heap.size ≤ j) ∧ SwI w' cv came ∧ (∀ j, cv.ownBlock = some j → ¬ K' j) := by
  obtain ⟨a, c⟩ := hs.toG h.g h.k
  refine ⟨a, c, h.c.chg hs.chg h.no, fun j e q => ?_⟩
  rcases hs.nw j q with r | r
  · exact h.no j e r
  · exact Nat.not_le.2 (h.c.lt e) r
end Go.Proofs.Ytmclbnhbioficac
