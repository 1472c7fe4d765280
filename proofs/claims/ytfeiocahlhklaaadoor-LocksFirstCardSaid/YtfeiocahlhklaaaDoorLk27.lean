/- Locks: the law's ints, of two lists that are one. -/
import Derived.Test.YtfeiocahlhklaaaDoorLk26
namespace Go.Proofs.YtfeiocahlhklaaaDoor
open Go.RowKit

/-- A slice of these numbers. -/
def RowI (w : World) (v : Value) (xs : List Int) : Prop := ∃ a c, v = .slice a xs.length c ∧ (xs = [] ∨ ∃ g, a = some ⟨g, 0, none⟩ ∧ g < w.heap.size ∧ ∀ j z, xs[j]? = some z → w.cell? ⟨g, j, none⟩ = some (I z))
theorem RowI.of_own {w : World} {lo : Nat} {v : Value} {xs : List Int} (h : w.ownsRow lo 3 1 v xs.length (xs.map fun z => I z)) : RowI w v xs := by
  rcases id h.2 with ⟨e, e2⟩ | ⟨g, cap, cur, e, -, hg, -⟩
  · refine ⟨none, 0, ?_, .inl (List.eq_nil_of_length_eq_zero e2)⟩
    rw [e, e2]
  · subst e
    refine ⟨_, cap, rfl, .inr ⟨g, rfl, (Array.getElem?_eq_some_iff.1 hg).1, fun j z hj => ?_⟩⟩
    have hjl : j < xs.length := (List.getElem?_eq_some_iff.1 hj).1
    rw [h.cellAt j (by omega), List.getElem?_map, hj]
    rfl
theorem RowI.of_blk {w : World} {b : Nat} {e : TypeId} {xs : List Int} (n c : Nat) (hn : n = xs.length) (h : Blk w b e (xs.map fun z => I z)) : RowI w (.slice (some ⟨b, 0, none⟩) n c) xs :=
  ⟨_, c, by rw [hn], .inr ⟨b, rfl, h.lt, fun j z hj => by rw [h.cell j, List.getElem?_map, hj]; rfl⟩⟩
theorem RowI.G {w w' : World} {v : Value} {xs : List Int} (h : RowI w v xs) (g : Go.Proofs.YtfeiocahlhklaaaDoor.G w w') : RowI w' v xs := by
  obtain ⟨a, c, e, h⟩ := h
  refine ⟨a, c, e, h.imp_right ?_⟩
  rintro ⟨b, e, hb, hc⟩
  exact ⟨b, e, Nat.lt_of_lt_of_le hb g.size, fun j z hj => (g.cell hb).trans (hc j z hj)⟩
set_option maxRecDepth 100000 in
set_option maxHeartbeats 1000000 in
theorem ints_eq (xs : List Int) (u v : Value) (w : World) (hl : xs.length < 1099511627776) (hu : RowI w u xs) (hv : RowI w v xs) : Calls Tryd.prog 10 #[u, v] w fun e w' => e = .returned (.bool true) ∧ G w w' := by
  obtain ⟨ua, uc, rfl, hu2⟩ := id hu
  obtain ⟨va, vc, rfl, hv2⟩ := id hv
  have HU := hide hu; have HV := hide hv; have HL := hide hl
  clear hu hv hl hu2 hv2
  go_enter Tryd.func10, Tryd.ntmps10
  go_wp2
  go_loopw [5] (fun i wr => ∃ k : Nat, i = I k ∧ k ≤ xs.length ∧ G w wr) (fun i _ => xs.length - (RowKit.intOf i).toNat)
  case atStart => exact ⟨0, rfl, Nat.zero_le _, G.refl _⟩
  case round =>
    obtain ⟨k, rfl, hk, hg⟩ := hrel
    have HG := hide hg
    by_cases hlt : k < xs.length
    · obtain ⟨z, hz⟩ : ∃ z, xs[k]? = some z := ⟨_, List.getElem?_eq_getElem hlt⟩
      obtain ⟨a1, c1, e1, h1⟩ := HU.out.G hg
      obtain ⟨a2, c2, e2, h2⟩ := HV.out.G hg
      cases e1
      cases e2
      rcases h1 with h1 | ⟨g1, rfl, -, h1⟩
      · rw [h1] at hlt; simp at hlt
      rcases h2 with h2 | ⟨g2, rfl, -, h2⟩
      · rw [h2] at hlt; simp at hlt
      have d1 := h1 k z hz
      have d2 := h2 k z hz
      have hkI : (k : Int) < (xs.length : Int) := by omega
      have HWR : Hid (wrap64 ((k : Int) + 1) = (k : Int) + 1) := by
        show wrap64 ((k : Int) + 1) = (k : Int) + 1
        have := HL.out
        unfold wrap64
        omega
      clear h1 h2 hz hg hlt hk
      go_wp2
      go_quiet (fail)
      go_wp2
      go_roundw
      case rel => exact ⟨k + 1, by rw [HWR.out]; rfl, by omega, HG.out.trans ((G.refl wr).drewN nq)⟩
      case measure => rw [HWR.out]; simp [RowKit.intOf]; omega
    · have hkI : ¬ (k : Int) < (xs.length : Int) := by omega
      clear hg hlt hk
      go_wp2
      go_ret
      exact ⟨rfl, HG.out⟩
end Go.Proofs.YtfeiocahlhklaaaDoor
