/- sizes, filled. -/
import Derived.Test.YtbjbphhcmmaaoaaLwE
import Derived.OwnWalk
namespace Go.Proofs.Ytbjbphhcmmaaoaa
open Go.RowKit

set_option maxRecDepth 100000 in
set_option maxHeartbeats 4000000 in
theorem sizes_no (n : Int) (hn : n < 1 ∨ 4096 < n) (w : World) : Calls Try.prog 6 #[.int .i64 n] w fun e w' => e = .returned (.tuple #[.pointer none, .bool true, .bool false]) ∧ G w w' := by
  have HN := hide (uP_new n)
  have hM : nwM n = none := by unfold nwM; rw [if_neg (by omega)]
  have hC : nwC n = 1 := by unfold nwC; rw [if_neg (by omega)]
  rw [hM, hC] at HN
  clear hM hC
  go_enter Try.func6, Try.ntmps6
  go_wp2_with fail
  refine (HN.out _).mono ?_
  rintro e' w1 ⟨q, rfl, hg, _, hq⟩
  obtain rfl : q = none := by
    cases q with
    | none => rfl
    | some _ => simp at hq
  have HG := hide hg
  clear hg hq HN
  rcases hn with hn | hn
  · go_wp2
    go_ret3
    exact ⟨rfl, HG.out⟩
  · have hn1 : ¬ n < 1 := by omega
    go_wp2
    go_ret3
    exact ⟨rfl, HG.out⟩
set_option maxRecDepth 100000 in
set_option maxHeartbeats 4000000 in
theorem sizes_yes (n : Nat) (h1 : 1 ≤ n) (h2 : n ≤ 4096) (w : World) : Calls Try.prog 6 #[.int .i64 n] w fun e w' => ∃ a, e = .returned (.tuple #[.pointer (some a), .bool true, .bool true]) ∧ G w w' ∧ SlP w' (fun k => w.heap.size ≤ k ∧ k < w'.heap.size) (.pointer (some a)) (some (DM.new n)) := by
  have HN := hide (uP_new n)
  have hM : nwM (n : Int) = some (DM.new n) := by unfold nwM; rw [if_pos (by omega)]; rfl
  have hC : nwC (n : Int) = 0 := by unfold nwC; rw [if_pos (by omega)]
  rw [hM, hC] at HN
  clear hM hC
  have hn1 : ¬ (n : Int) < 1 := by omega
  have hn2 : ¬ (4096 : Int) < n := by omega
  go_enter Try.func6, Try.ntmps6
  go_wp2_with fail
  refine (HN.out _).mono ?_
  rintro e' w1 ⟨q, rfl, hg, hp, hq⟩
  obtain ⟨a, rfl⟩ : ∃ a, q = some a := Option.isSome_iff_exists.1 (by rw [hq]; rfl)
  have HG := hide hg
  have HP := hide hp
  clear hg hq hp HN
  go_wp2
  go_ret3
  exact ⟨a, rfl, HG.out, HP.out⟩
def fl (f i : Nat) : Nat := (f + 3 * i) % 256
def flL (f : Nat) : List Nat := (List.range 128).map (fl f)
theorem flL_len (f : Nat) : (flL f).length = 128 := by unfold flL; simp
theorem flL_lt (f : Nat) : ∀ x ∈ flL f, x < 256 := fun x hx => by
  obtain ⟨i, _, rfl⟩ := List.mem_map.1 hx
  exact Nat.mod_lt _ (by decide)
/-- So far it is filled. -/
def flTo (f i : Nat) : List Nat := (List.range 128).map fun j => if j < i then fl f j else 0
theorem flTo_zero (f : Nat) : flTo f 0 = List.replicate 128 0 := by unfold flTo; rw [show (fun j => if j < 0 then fl f j else 0) = (fun _ => 0) from funext fun j => if_neg (Nat.not_lt_zero j), List.map_const', List.length_range]
theorem flTo_all (f : Nat) : flTo f 128 = flL f := by
  unfold flTo flL
  exact List.map_congr_left fun j hj => if_pos (List.mem_range.1 hj)
theorem flTo_set (f i : Nat) : ((flTo f i).map bv).set i (bv (fl f i)) = (flTo f (i + 1)).map bv := by
  refine List.ext_getElem? fun j => ?_
  unfold flTo
  rw [List.getElem?_set]
  simp only [List.length_map, List.length_range, List.getElem?_map]
  by_cases hj : j < 128
  · rw [List.getElem?_range hj]
    by_cases he : i = j
    · subst he
      simp [hj]
    · simp only [if_neg he, Option.map_some]
      by_cases h : j < i
      · rw [if_pos h, if_pos (by omega)]
      · rw [if_neg h, if_neg (by omega)]
  · rw [List.getElem?_eq_none (by simp; omega)]
    by_cases he : i = j
    · subst he; simp [hj]
    · simp [he]
set_option maxRecDepth 100000 in
set_option maxHeartbeats 4000000 in
theorem filled_any (f : Nat) (w : World) : Calls Try.prog 27 #[bv f] w fun e w' => ∃ x, e = .returned x ∧ G w w' ∧ Bytes w' x (flL f) ∧ ∀ j, Value.blk x j → w.heap.size ≤ j := by
  obtain ⟨i0, hi, hz0, hz1, hz2⟩ := info_u8
  go_enter Try.func27, Try.ntmps27
  go_wp2_with fail
  rw [run_make (P := Try.prog) w 28 5 i0 (bv 0) Try.underlying28 hi hz0 .i64 .i64 128 128 (by decide) (by decide) (by rw [hz2]; decide) (by decide), hz1]
  have e1 : madeCells (bv 0).cells ((128 : Int).toNat * 1) = ((flTo f 0).map bv).toArray := by rw [flTo_zero]; exact made_u8 128
  rw [e1, show (128 : Int).toNat = 128 from rfl]
  have HB0 := hide (Blk.new w ((flTo f 0).map bv) 5)
  have HG0 := hide ((G.refl w).alloc (.cells ((flTo f 0).map bv).toArray 5))
  generalize w.alloc (.cells ((flTo f 0).map bv).toArray 5) = w1 at HB0 HG0 ⊢
  clear hi hz0 hz1 hz2 e1
  go_wp2_with fail
  go_loopw [4] (fun i W => ∃ m : Nat, m ≤ 128 ∧ i = .int .i64 m ∧ Blk W w.heap.size 5 ((flTo f m).map bv) ∧ G w W) (fun i _ => 128 - (RowKit.intOf i).toNat)
  case atStart => exact ⟨0, by omega, rfl, HB0.out, HG0.out⟩
  case round =>
    obtain ⟨m, hm, rfl, hB, hG⟩ := hrel
    have HB := hide hB
    have HG := hide hG
    clear hB hG
    by_cases hlt : m < 128
    · have hc : wr.cell? ⟨w.heap.size, m, none⟩ = some (bv 0) := by
        rw [HB.out.cell, List.getElem?_map]
        unfold flTo
        rw [List.getElem?_map, List.getElem?_range hlt]
        simp
      have hfz := HB.out.frozen
      have hv : IntKind.u8.wrap ((f : Int) + IntKind.u8.wrap (3 * (m : Int))) = ((fl f m : Nat) : Int) := by
        unfold fl
        rw [IntKind.wrap_u8, IntKind.wrap_u8]
        omega
      have HS := hide (HB.out.set m (bv (fl f m)))
      rw [flTo_set] at HS
      go_wp2
      go_roundw
      case rel => exact ⟨m + 1, by omega, by go_num, HS.out, HG.out.setCell (Nat.le_refl _) _⟩
      case measure => simp [RowKit.intOf]; omega
    · obtain rfl : m = 128 := by omega
      go_wp2
      go_ret
      refine ⟨_, rfl, HG.out, ⟨some ⟨w.heap.size, 0, none⟩, 128, by rw [flL_len]; rfl, by rw [flL_len]; decide, .inr ⟨_, _, rfl, ?_⟩⟩, fun j hj => ?_⟩
      · rw [← flTo_all]
        exact HB.out.lies
      · obtain ⟨_, _, _, e, _, rfl⟩ := hj
        cases e
        exact Nat.le_refl _
end Go.Proofs.Ytbjbphhcmmaaoaa
