/- Disks: sectorOf, bytes. -/
import Derived.Test.YtbjbphhcmmaaoaaDkL
import Derived.Test.YtbjbphhcmmaaoaaDk1
namespace Go.Proofs.Ytbjbphhcmmaaoaa
open Go.RowKit

/-- Bytes lie there, from an address on. -/
def Lies (w : World) (ad : Addr) (xs : List Nat) : Prop := ∀ j x, xs[j]? = some x → w.cell? (ad.add j) = some (bv x)
theorem Lies.G {w w' : World} {ad : Addr} {xs : List Nat} (h : Lies w ad xs) (g : G w w') : Lies w' ad xs := fun j x hj => by
  have := h j x hj
  exact (Below.cell g (World.block_lt_of_cell? _ _ this)).trans this
theorem Lies.cells {w : World} {ad : Addr} {xs : List Nat} (h : Lies w ad xs) : ∀ j v, (xs.map bv)[j]? = some v → w.cell? (ad.add j) = some v := fun j v hv => by
  rw [List.getElem?_map, Option.map_eq_some_iff] at hv
  obtain ⟨x, hx, rfl⟩ := hv
  exact h j x hx
theorem Blk.zsec (w : World) : Blk (w.alloc (.cells zeroCells81 81)) w.heap.size 81 ((List.replicate 128 0).map bv) := by rw [zero_sec]; exact Blk.new w _ _
theorem Blk.all {w : World} {g : Nat} {e : TypeId} {xs : List Value} (h : Blk w g e xs) : w.rangeAt g 0 xs := fun j v hv => by rw [Nat.zero_add, h.cell, hv]
theorem Blk.whole {w : World} {g : Nat} {e : TypeId} {xs : List Value} (h : Blk w g e xs) (vs : List Value) (hl : vs.length = xs.length) : Blk (w.setCells g 0 vs) g e vs := by
  have := h.sets vs 0 (by omega)
  rw [List.take_zero, List.nil_append, Nat.zero_add, List.drop_of_length_le (by omega), List.append_nil] at this
  exact this
theorem Blk.other {w : World} {g b o : Nat} {e : TypeId} {xs : List Value} (h : Blk w g e xs) (vs : List Value) (hn : g ≠ b) : Blk (w.setCells b o vs) g e xs := h.keep (setCells_other b g hn _ _ _)
theorem len128 : ((List.replicate 128 0).map bv).length = 128 := by rw [List.length_map, List.length_replicate]
/-- A sector's box, filled. -/
theorem so_start (w : World) (xs : List Nat) (hx : xs.length = 128) : let W := ((w.alloc (.cells zeroCells81 81)).alloc (.cells zeroCells81 81))
    W.there (w.heap.size + 1) 0 (xs.map bv).length ∧ G w W ∧ Blk (W.setCells (w.heap.size + 1) 0 (xs.map bv)) (w.heap.size + 1) 81 (xs.map bv) ∧ Blk (W.setCells (w.heap.size + 1) 0 (xs.map bv)) w.heap.size 81 ((List.replicate 128 0).map bv) ∧ G w (W.setCells (w.heap.size + 1) 0 (xs.map bv)) := by
  intro W
  have h1 := Blk.zsec w
  have h2 : Blk W (w.heap.size + 1) 81 ((List.replicate 128 0).map bv) := by
    have := Blk.zsec (w.alloc (.cells zeroCells81 81))
    rw [World.size_alloc] at this
    exact this
  have h3 : Blk W w.heap.size 81 ((List.replicate 128 0).map bv) := h1.G ((G.refl _).alloc _)
  have hl : (xs.map bv).length = ((List.replicate 128 0).map bv).length := by rw [len128, List.length_map, hx]
  have g : G w W := ((G.refl w).alloc _).alloc _
  exact ⟨h2.there 0 _ (by omega), g, h2.whole _ hl, h3.other _ (by omega), G.setCells _ g (by omega)⟩
set_option maxRecDepth 100000 in
set_option maxHeartbeats 2000000 in
theorem sectorOf_any (ad : Addr) (len cap : Nat) (xs : List Nat) (hx : xs.length = 128) (hl : 128 ≤ len) (w : World) (hr : Lies w ad xs) : Calls Try.prog 29 #[.slice (some ad) len cap] w fun e w' => e = .returned (.agg (xs.map bv).toArray) ∧ G w w' := by
  have HR : Hid (Lies w ad xs) := hr
  have hst := so_start w xs hx
  have hxl : (xs.map bv).length = 128 := by rw [List.length_map, hx]
  have HXL : Hid ((xs.map bv).length = 128) := hxl
  have HL : Hid (128 ≤ len) := hl
  clear hr hxl hx hl
  go_enter Try.func29, Try.ntmps29
  go_wp2_with fail
  rw [run_copy_cells (P := Try.prog) _ 28 28 _ 5 (w.heap.size + 1) 0 128 128 ad len cap (xs.map bv) Try.underlying28 size_u8 (by rw [HXL.out]; have := HL.out; show 128 = min len 128; omega) (HR.out.G hst.2.1).cells (fun j hj => (hst.1 j hj).1) (fun j hj => (hst.1 j hj).2) (one_map _)]
  obtain ⟨_, _, hb1, hb2, hg⟩ := hst
  have HB1 : Hid (Blk _ _ _ _) := hb1
  have HB2 : Hid (Blk _ _ _ _) := hb2
  have HG : Hid (G w _) := hg
  clear hb1 hb2 hg
  generalize ((w.alloc (.cells zeroCells81 81)).alloc (.cells zeroCells81 81)).setCells (w.heap.size + 1) 0 (xs.map bv) = W at HB1 HB2 HG ⊢
  go_wp2_with (first | refine wpList_load_mid rfl 81 _ rfl (w.heap.size + 1) 0 rfl (xs.map bv) _ HB1.out.all Try.underlying81 rfl (by rw [HXL.out]; exact size_sec) ?_ | refine wpList_store_mid rfl 81 _ _ rfl w.heap.size 0 (xs.map bv).toArray rfl rfl (HB2.out.there 0 _ (by rw [len128, List.size_toArray, HXL.out]; decide)) (by rw [List.size_toArray, HXL.out]; exact size_sec) (all_oneCell_toArray (one_map _)) ?_)
  refine bodyPost_ret_by (v := .agg (xs.map bv).toArray) (ret_cell Try.results29 _ _ w.heap.size (xs.map bv) _ rfl (HB2.out.whole _ (by rw [len128, HXL.out])).all Try.underlying81 rfl (by rw [HXL.out]; exact size_sec)) rfl ⟨rfl, G.setCells _ HG.out (Nat.le_refl _)⟩
set_option maxRecDepth 100000 in
set_option maxHeartbeats 2000000 in
theorem bytes_any (xs : List Nat) (hx : xs.length = 128) (w : World) : Calls Try.prog 32 #[.agg (xs.map bv).toArray] w fun e w' => e = .returned (.slice (some ⟨w.heap.size + 1, 0, none⟩) 128 128) ∧ G w w' ∧ Blk w' (w.heap.size + 1) 5 (xs.map bv) := by
  have hxl : (xs.map bv).length = 128 := by rw [List.length_map, hx]
  have HXL : Hid ((xs.map bv).length = 128) := hxl
  clear hx hxl
  have hb := Blk.new w (xs.map bv) 81
  have hg : G w (w.alloc (.cells (xs.map bv).toArray 81)) := (G.refl w).alloc _
  have hz : (w.alloc (.cells (xs.map bv).toArray 81)).heap.size = w.heap.size + 1 := by simp
  go_enter Try.func32, Try.ntmps32
  go_wp2_with fail
  generalize w.alloc (.cells (xs.map bv).toArray 81) = w1 at hb hg hz ⊢
  obtain ⟨i0, hi, hz0, hz1, hz2⟩ := info_u8
  rw [run_make (P := Try.prog) w1 28 5 i0 (bv 0) Try.underlying28 hi hz0 .i64 .i64 128 128 (by decide) (by decide) (by rw [hz2]; decide) (by decide), hz1]
  have e1 : madeCells (bv 0).cells ((128 : Int).toNat * 1) = ((List.replicate 128 0).map bv).toArray := made_u8 128
  rw [e1, show (128 : Int).toNat = 128 from rfl]
  have hb1 := Blk.new w1 ((List.replicate 128 0).map bv) 5
  have hg1 := (G.refl w1).alloc (.cells ((List.replicate 128 0).map bv).toArray 5)
  generalize w1.alloc (.cells ((List.replicate 128 0).map bv).toArray 5) = w2 at hb1 hg1 ⊢
  clear hi hz0 hz1 hz2
  rw [hz] at hb1 ⊢
  go_wp2_with fail
  rw [run_copy_cells (P := Try.prog) _ 28 28 _ 5 (w.heap.size + 1) 0 128 128 ⟨w.heap.size, 0, none⟩ 128 128 (xs.map bv) Try.underlying28 size_u8 (by rw [HXL.out]; rfl) (fun j v hj => by rw [Addr.add_mid, Nat.zero_add, (hb.G hg1).cell]; exact hj) (fun j hj => (hb1.there 0 (xs.map bv).length (by rw [len128, HXL.out]; decide) j hj).1) (fun j hj => hb1.frozen _) (one_map _)]
  have HB : Hid (Blk (w2.setCells (w.heap.size + 1) 0 (xs.map bv)) (w.heap.size + 1) 5 (xs.map bv)) := hb1.whole _ (by rw [len128, HXL.out])
  have HG : Hid (G w (w2.setCells (w.heap.size + 1) 0 (xs.map bv))) := G.setCells _ (hg.trans hg1) (by omega)
  clear hb hg hb1 hg1
  generalize w2.setCells (w.heap.size + 1) 0 (xs.map bv) = W at HB HG ⊢
  go_wp2
  go_ret
  exact ⟨rfl, HG.out, HB.out⟩
end Go.Proofs.Ytbjbphhcmmaaoaa
