/- Disks: Pending. -/
import Derived.Test.YtbjbphhcmmaaoaaDk9
namespace Go.Proofs.Ytbjbphhcmmaaoaa
open Go.RowKit

/-- The cells of a list of writes, whose bytes lie in these blocks. -/
def swC (q : (Nat × List Nat) × Nat) : List Value := [I q.1.1, .slice (some ⟨q.2, 0, none⟩) 128 128]
def swsC (l : List ((Nat × List Nat) × Nat)) : List Value := l.flatMap swC
theorem swsC_snoc (l : List ((Nat × List Nat) × Nat)) (q : (Nat × List Nat) × Nat) : swsC (l ++ [q]) = swsC l ++ swC q := by simp [swsC]
theorem swsC_len (l : List ((Nat × List Nat) × Nat)) : (swsC l).length = l.length * 2 := by
  induction l with
  | nil => rfl
  | cons e l ih =>
    have : swsC (e :: l) = swC e ++ swsC l := by simp [swsC]
    rw [this, List.length_append, ih, List.length_cons]; simp [swC]; omega
theorem swsC_at {l : List ((Nat × List Nat) × Nat)} : ∀ {i : Nat} {q : (Nat × List Nat) × Nat}, l[i]? = some q → (swsC l)[i * 2]? = some (I q.1.1) ∧ (swsC l)[i * 2 + 1]? = some (.slice (some ⟨q.2, 0, none⟩) 128 128) := by
  induction l with
  | nil => intro i q hi; simp at hi
  | cons f l ih =>
    intro i q hi
    have : swsC (f :: l) = swC f ++ swsC l := by simp [swsC]
    rw [this]
    cases i with
    | zero => simp at hi; subst hi; simp [swC]
    | succ i =>
      have h2 : (swC f).length = 2 := rfl
      rw [List.getElem?_append_right (by omega), List.getElem?_append_right (by omega), h2, show (i + 1) * 2 - 2 = i * 2 by omega, show (i + 1) * 2 + 1 - 2 = i * 2 + 1 by omega]
      exact ih (by simpa using hi)
/-- A list of writes in memory: v; all its bytes lie in blocks of F, none of them in a block of N. -/
structure RowW (w : World) (v : Value) (l : List (Nat × List Nat)) (F N : Nat → Prop) : Prop where
  h : ∃ ds : List Nat, ds.length = l.length ∧ w.ownsRow 0 96 2 v l.length (swsC (l.zip ds)) ∧ ∀ (i : Nat) e d, l[i]? = some e → ds[i]? = some d → Blk w d 5 (e.2.map bv) ∧ F d ∧ ¬ N d
  f : ∀ g, v.ownBlock = some g → F g
theorem RowW.chg {w w' : World} {v : Value} {l : List (Nat × List Nat)} {F N G : Nat → Prop} (h : RowW w v l F N) (k : Chg G w w') (hF : ∀ j, F j → ¬ G j) : RowW w' v l F N := by
  obtain ⟨⟨ds, h1, h2, h3⟩, h4⟩ := h
  exact ⟨⟨ds, h1, own_chg h2 k (fun g hg => hF g (h4 g hg)), fun i e d hi hd => ⟨(h3 i e d hi hd).1.chg k (hF d (h3 i e d hi hd).2.1), (h3 i e d hi hd).2⟩⟩, h4⟩
theorem RowW.mono {w : World} {v : Value} {l : List (Nat × List Nat)} {F F' N N' : Nat → Prop} (h : RowW w v l F N) (hF : ∀ j, F j → F' j) (hN : ∀ j, N' j → N j) : RowW w v l F' N' := by
  obtain ⟨⟨ds, h1, h2, h3⟩, h4⟩ := h
  exact ⟨⟨ds, h1, h2, fun i e d hi hd => ⟨(h3 i e d hi hd).1, hF _ (h3 i e d hi hd).2.1, fun x => (h3 i e d hi hd).2.2 (hN _ x)⟩⟩, fun g hg => hF _ (h4 g hg)⟩
theorem info_sw : ∃ i, Try.prog.info? 96 = some i ∧ i.zero = some (.agg #[I 0, .slice none 0 0]) ∧ i.size = 2 ∧ i.bytes = 32 := info_parts (by kernel_rfl)
/-- A write more: its bytes lie in a block d. -/
theorem app_sw (ty : TypeId) {w : World} {v : Value} {l : List (Nat × List Nat)} {F N : Nat → Prop} {e : Nat × List Nat} {g d : Nat} (hr : RowW w v l F N) (hl : l.length ≤ 549755813888) (hb : Blk w g 96 [I e.1, .slice (some ⟨d, 0, none⟩) 128 128]) (hd : Blk w d 5 (e.2.map bv)) (hF : F d) (hN : ¬ N d) (hFn : F w.heap.size) (hdv : v.ownBlock ≠ some d) :
    ∃ g' cap' w', (Builtin.append_ #[88, 88] ty #[v, .slice (some ⟨g, 0, none⟩) 1 1]).run Try.prog w = .ok (.slice (some ⟨g', 0, none⟩) (l ++ [e]).length cap') w' ∧ RowW w' (.slice (some ⟨g', 0, none⟩) (l ++ [e]).length cap') (l ++ [e]) F N ∧ Chg (fun k => v.ownBlock = some k) w w' := by
  obtain ⟨⟨ds, h1, h2, h3⟩, h4⟩ := hr
  obtain ⟨i, hi, hz0, hz1, hz2⟩ := info_sw
  obtain ⟨v', w', hr, q2, q3, _, q5⟩ := run_append_own_at (P := Try.prog) w 0 88 ty 96 i _ 2 32 Try.underlying88 hi hz0 hz1 hz2 rfl (by decide) v l.length (swsC (l.zip ds)) h2 ⟨g, 0, none⟩ 1 1 (swC (e, d)) rfl (fun j u hj => by rw [Addr.add_mid, Nat.zero_add, hb.cell]; exact hj) (fun u hu => by simp [swC] at hu; rcases hu with rfl | rfl <;> rfl) (by unfold maxLen; omega) (by omega) (Nat.zero_le _)
  have hz : (l ++ [e]).zip (ds ++ [d]) = l.zip ds ++ [(e, d)] := by rw [List.zip_append h1.symm]; rfl
  have q2' : w'.ownsRow 0 96 2 v' (l ++ [e]).length (swsC ((l ++ [e]).zip (ds ++ [d]))) := by rw [hz, List.length_append, swsC_snoc]; exact q2
  have hch := grown_chg q3
  rcases q2'.2 with ⟨_, hn⟩ | ⟨g', cap', cur, rfl, _⟩
  · simp at hn
  · refine ⟨g', cap', w', hr, ⟨⟨ds ++ [d], by simp [h1], q2', fun i e' d' hi hd' => ?_⟩, fun g0 hg0 => ?_⟩, hch⟩
    · by_cases hil : i < l.length
      · rw [List.getElem?_append_left hil] at hi
        rw [List.getElem?_append_left (by omega)] at hd'
        obtain ⟨r1, r2, r3⟩ := h3 i e' d' hi hd'
        exact ⟨r1.chg hch (fun hv => by
          have := own_ne h2 r1 (by decide)
          exact this hv), r2, r3⟩
      · have hil2 : i = l.length := by
          have := (List.getElem?_eq_some_iff.1 hi).1
          simp at this; omega
        subst hil2
        rw [List.getElem?_append_right (Nat.le_refl _)] at hi
        rw [List.getElem?_append_right (by omega), h1] at hd'
        simp at hi hd'
        subst hi hd'
        exact ⟨hd.chg hch hdv, hF, hN⟩
    · rcases q5 with q5 | q5
      · exact h4 g0 (q5 ▸ hg0)
      · rw [q5] at hg0
        cases hg0
        exact hFn
end Go.Proofs.Ytbjbphhcmmaaoaa
