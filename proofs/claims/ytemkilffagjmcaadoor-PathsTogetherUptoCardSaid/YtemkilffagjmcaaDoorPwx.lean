/- Paths: rows (for a seat without the document's search). -/
import Derived.Test.YtemkilffagjmcaaDoorPj10
namespace Go.Proofs.YtemkilffagjmcaaDoor
open Go.RowKit

theorem Rw.set {lo : Nat} {e : TypeId} {nc : Nat} {w : World} {g n cap : Nat} {xs : List Value} (h : Rw lo e nc w (.slice (some ⟨g, 0, none⟩) n cap) n xs) (o : Nat) (_ho : o < n * nc) (u : Value) : Rw lo e nc (w.setCell ⟨g, o, none⟩ u) (.slice (some ⟨g, 0, none⟩) n cap) n (xs.set o u) := by
  refine ⟨by rw [List.length_set]; exact h.1, ?_⟩
  rcases h.2 with ⟨q, _⟩ | ⟨g', cap', cur, q, hlo, hg, hc, hm, hs, ht⟩
  · cases q
  · simp only [Value.slice.injEq, Option.some.injEq, Addr.mk.injEq] at q
    obtain ⟨⟨rfl, -, -⟩, -, rfl⟩ := q
    have hb : Blk w g e cur.toList := ⟨hg⟩
    have hb2 := hb.set o u
    refine .inr ⟨g, cap, (cur.toList.set o u).toArray, rfl, hlo, hb2.h, hc, hm, by simpa using hs, ?_⟩
    rw [← ht]
    simp only
    rw [List.take_set]
theorem Rw.offb {lo : Nat} {e e' : TypeId} {nc : Nat} {w : World} {v : Value} {n b : Nat} {xs ys : List Value} (h : Rw lo e nc w v n xs) (hb : Blk w b e' ys) (he : e ≠ e') : v.ownBlock ≠ some b := fun q => by
  obtain ⟨_, _, zs, hz⟩ := h.own q
  exact he (hz.type hb).1
end Go.Proofs.YtemkilffagjmcaaDoor
