/- Paths: the keys of a map of numbers, rising. -/
import Derived.Test.YtemkilffagjmcaaDoorPz1
import Derived.Test.YtemkilffagjmcaaDoorShZ1
import Derived.Test.YtemkilffagjmcaaDoorShZ2
import Derived.Test.YtemkilffagjmcaaDoorShZ3
import Derived.Shelf.SlIterI.Nil
import Derived.Shelf.SortM.Plain
import Derived.Shelf.SortM.SortNone
namespace Go.Proofs.YtemkilffagjmcaaDoor
open Go.RowKit Go.Maps Go.Sort Go.Shelf

theorem keys_call (W : World) (mb : Nat) : Calls Tryd.prog 29 #[.map (some mb)] W fun e W' => e = .returned (.func (.func 43) #[] #[.pointer (some ⟨W.heap.size, 0, none⟩)]) ∧ W' = W.alloc (.cells #[.map (some mb)] 58) := (callsIn_wide (n := 5)).1 (AnyZI.keys_in Tryd.keysZ Fence.wide 5 trivial rfl (some mb) W)
set_option maxHeartbeats 1000000 in
theorem sorted_call (W : World) (mb : Nat) (g : Int → Option Value) (ids : List Int) (hm : Mp (fun n : Int => I n) 2 W mb g) (hids : ids.Pairwise (· < ·)) (hmem : ∀ a, a ∈ ids ↔ R64 a ∧ g a ≠ none) (hlen : ids.length ≤ 4096) :
    Calls Tryd.prog 28 #[.func (.func 43) #[] #[.pointer (some ⟨W.heap.size, 0, none⟩)]] (W.alloc (.cells #[.map (some mb)] 58)) fun e W' => ∃ v, e = .returned v ∧ Rw (W.alloc (.cells #[.map (some mb)] 58)).heap.size 2 1 W' v ids.length (ids.map I) ∧ G (W.alloc (.cells #[.map (some mb)] 58)) W' := by
  obtain ⟨n, D, hown, hnd, hk, hsz⟩ := hm.keysI
  have hbl := hown.lt
  have hlen2 : (intKeys D).length = ids.length := by
    have hidn : ids.Nodup := hids.imp (fun h => Int.ne_of_lt h)
    exact ((List.perm_ext_iff_of_nodup hnd hidn).2 (fun a => by rw [hk a, hmem a])).length_eq
  have hsz2 : Maps.size D ≤ 4096 := by omega
  have hmx : (4096 : Nat) ≤ maxLen := of_decide_eq_true (by kernel_rfl)
  have hseq : SeqGives Fence.wide 2 Tryd.prog 43 #[.pointer (some ⟨W.heap.size, 0, none⟩)] encZ (fun ss => ss.Perm (intKeys D)) (Maps.size D) (W.alloc (.cells #[.map (some mb)] 58)) :=
    AnyZI.keys_gives (ρ := Tryd.keysZ_ren) { Tryd.keysZ with } Fence.wide _ trivial rfl (by omega) W.heap.size mb n D _ (by simp) (by simp) (by
      obtain ⟨es, clock, hb, Ft, hs, hD⟩ := hown
      exact ⟨es, clock, (Below.heap_alloc _ _ mb hbl).trans hb, Ft, hs, hD⟩)
  have hsorts : ∀ m, AnyZI.SortsIn Tryd.prog Tryd.sortedZ_ren Fence.wide m := fun m =>
    ⟨fun blk off cap ss W hH hblk hsz => callsIn_wide.2 (AnyM.slices_Sort_int Tryd.sortZ blk off cap ss W hH hblk hsz),
     fun p cap W => callsIn_wide.2 (AnyM.slices_Sort_int_none Tryd.sortZ p cap W)⟩
  have cS := AnyZI.sorted_in Tryd.sortedZ Fence.wide 5 trivial trivial trivial trivial rfl (by omega) (hsorts _) (enters_of Tryd.func42 (by kernel_rfl) rfl) 43 #[.pointer (some ⟨W.heap.size, 0, none⟩)] trivial (enters_of Tryd.func43 (by kernel_rfl) rfl) _ _ (by omega) (by omega) _ hseq
  change CallsIn _ _ Tryd.prog 28 _ _ _ at cS
  refine ((callsIn_wide (n := 5)).1 cS).mono ?_
  rintro e w' ⟨v, ss, rfl, hS, hrow, hnil, hb⟩
  have he : ss.mergeSort (fun x y => decide (x ≤ y)) = ids := by
    have p1 : (ss.mergeSort (fun x y => decide (x ≤ y))).Perm ids := (List.mergeSort_perm _ _).trans (hS.trans ((List.perm_ext_iff_of_nodup hnd (hids.imp (fun h => Int.ne_of_lt h))).2 (fun a => by rw [hk a, hmem a])))
    have s1 : (ss.mergeSort (fun x y => decide (x ≤ y))).Pairwise (fun x y => decide (x ≤ y) = true) := List.pairwise_mergeSort (fun a b c h1 h2 => by simp at *; omega) (fun a b => by simp; omega) ss
    exact List.Perm.eq_of_pairwise (le := fun x y : Int => decide (x ≤ y) = true) (fun a b _ _ h1 h2 => by simp at h1 h2; omega) s1 (hids.imp (fun h => by simp; omega)) p1
  have hl3 : ss.length = ids.length := by rw [← he, List.length_mergeSort]
  refine ⟨v, rfl, ?_, hb⟩
  rw [he, hl3] at hrow
  exact hrow
end Go.Proofs.YtemkilffagjmcaaDoor
