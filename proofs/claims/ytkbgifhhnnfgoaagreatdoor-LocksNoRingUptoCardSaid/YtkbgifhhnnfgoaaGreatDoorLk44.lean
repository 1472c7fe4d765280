/- Locks: the keys of a map, rising. -/
import Derived.Test.YtkbgifhhnnfgoaaGreatDoorLk43
import Derived.Test.YtkbgifhhnnfgoaaGreatDoorShK1
import Derived.Test.YtkbgifhhnnfgoaaGreatDoorShK2
import Derived.Test.YtkbgifhhnnfgoaaGreatDoorShK3
import Derived.Test.YtkbgifhhnnfgoaaGreatDoorShK4
import Derived.Lib.SlKeysI
import Derived.Shelf.SlIterI.Nil
import Derived.Shelf.SortM.Plain
import Derived.Shelf.SortM.SortNone
namespace Go.Proofs.YtkbgifhhnnfgoaaGreatDoor
open Go.RowKit Go.Maps Go.Sort Go.Shelf

theorem Mp.keysI {w : World} {b : Nat} {g : Int → Option Value} (h : Mp (fun n : Int => I n) 3 w b g) : ∃ (n : Nat) (D : DataW Value), w.ownsMap Tryz.prog 3 hE b n D ∧ (intKeys D).Nodup ∧ (∀ a, a ∈ intKeys D ↔ R64 a ∧ g a ≠ none) ∧ Maps.size D = (intKeys D).length := by
  obtain ⟨n, D, h1, h2⟩ := h
  have hk := Tryz.underlying3
  obtain ⟨es, hD, hpw, _⟩ := h1.entries kyI.keyed
  obtain ⟨es', hD', hko⟩ := h1.keysOf
  obtain rfl : es = es' := by rw [hD] at hD'; simpa using hD'
  have hki : ∀ p ∈ es, ∃ x, p.1 = .int .i64 x := fun p hp => by obtain ⟨v, hv⟩ := hko p hp; obtain ⟨x, _, hx, _⟩ := Maps.keyOf_i64 hk hv; exact ⟨x, hx⟩
  refine ⟨n, D, h1, ?_, fun a => ?_, ?_⟩
  · rw [hD]
    show (es.map fun p => _root_.Go.intOf p.1).Nodup
    refine List.pairwise_map.2 (hpw.imp_of_mem fun {p q} hp' hq' hne e => hne ?_)
    obtain ⟨a, ha⟩ := hki p hp'
    obtain ⟨b, hb⟩ := hki q hq'
    rw [ha, hb] at e ⊢
    exact congrArg _ e
  · have hmem : a ∈ intKeys D ↔ Maps.has D (.int .i64 a) = true := by
      rw [hD, has_eq, List.any_eq_true]
      show a ∈ es.map (fun p => _root_.Go.intOf p.1) ↔ _
      rw [List.mem_map]
      constructor
      · rintro ⟨p, hp', rfl⟩
        obtain ⟨x, hx⟩ := hki p hp'
        exact ⟨p, hp', by rw [hx]; simp [Lit.sameKey, _root_.Go.intOf]⟩
      · rintro ⟨p, hp', hs⟩
        obtain ⟨x, hx⟩ := hki p hp'
        rw [hx] at hs
        exact ⟨p, hp', by rw [hx]; simpa [Lit.sameKey, _root_.Go.intOf] using hs⟩
    constructor
    · intro ha
      have hr : R64 a := wf_R64.1 (intKeys_wf h1 hk a ha)
      refine ⟨hr, fun e => ?_⟩
      have h3 := h2 a _ (keyOf_int_mk hk (wf_R64.2 hr))
      have h4 := hmem.1 ha
      rw [getH_has h1, h3, e] at h4
      cases h4
    · rintro ⟨hr, hg⟩
      rw [hmem, getH_has h1, h2 a _ (keyOf_int_mk hk (wf_R64.2 hr))]
      cases hv : g a with
      | none => exact absurd hv hg
      | some v => rfl
  · rw [hD]
    simp [intKeys, size_eq]
theorem keys_callP (W : World) (mb : Nat) : Calls Tryz.prog 47 #[.map (some mb)] W fun e W' => e = .returned (.func (.func 78) #[] #[.pointer (some ⟨W.heap.size, 0, none⟩)]) ∧ W' = W.alloc (.cells #[.map (some mb)] 58) := (callsIn_wide (n := 5)).1 (AnyZI.keys_in Tryz.keysP Fence.wide 5 trivial rfl (some mb) W)
set_option maxHeartbeats 1000000 in
theorem sorted_callP (W : World) (mb : Nat) (g : Int → Option Value) (ids : List Int) (hm : Mp (fun n : Int => I n) 3 W mb g) (hids : ids.Pairwise (· < ·)) (hmem : ∀ a, a ∈ ids ↔ R64 a ∧ g a ≠ none) (hlen : ids.length < 4100000000000) :
    Calls Tryz.prog 46 #[.func (.func 78) #[] #[.pointer (some ⟨W.heap.size, 0, none⟩)]] (W.alloc (.cells #[.map (some mb)] 58)) fun e W' => ∃ v, e = .returned v ∧ W'.ownsRow (W.alloc (.cells #[.map (some mb)] 58)).heap.size 3 1 v ids.length (ids.map fun z => I z) ∧ G (W.alloc (.cells #[.map (some mb)] 58)) W' := by
  obtain ⟨n, D, hown, hnd, hk, hsz⟩ := hm.keysI
  have hbl := hown.lt
  have hlen2 : (intKeys D).length = ids.length := by
    have hidn : ids.Nodup := hids.imp (fun h => Int.ne_of_lt h)
    exact ((List.perm_ext_iff_of_nodup hnd hidn).2 (fun a => by rw [hk a, hmem a])).length_eq
  have hsz2 : Maps.size D < 4100000000000 := by omega
  have hmx : (4100000000000 : Nat) ≤ maxLen := of_decide_eq_true (by kernel_rfl)
  have hseq : SeqGives Fence.wide 2 Tryz.prog 78 #[.pointer (some ⟨W.heap.size, 0, none⟩)] encZ (fun ss => ss.Perm (intKeys D)) (Maps.size D) (W.alloc (.cells #[.map (some mb)] 58)) :=
    AnyZI.keys_gives (ρ := Tryz.keysP_ren) { Tryz.keysP with } Fence.wide _ trivial rfl (by omega) W.heap.size mb n D _ (by simp) (by simp) (by
      obtain ⟨es, clock, hb, Ft, hs, hD⟩ := hown
      exact ⟨es, clock, (Below.heap_alloc _ _ mb hbl).trans hb, Ft, hs, hD⟩)
  have hsorts : ∀ m, AnyZI.SortsIn Tryz.prog Tryz.sortedI_ren Fence.wide m := fun m =>
    ⟨fun blk off cap ss W hH hblk hsz => callsIn_wide.2 (AnyM.slices_Sort_int Tryz.sortI blk off cap ss W hH hblk hsz),
     fun p cap W => callsIn_wide.2 (AnyM.slices_Sort_int_none Tryz.sortI p cap W)⟩
  have cS := AnyZI.sorted_in Tryz.sortedI Fence.wide 5 trivial trivial trivial trivial rfl (by omega) (hsorts _) (enters_of Tryz.func77 (by kernel_rfl) rfl) 78 #[.pointer (some ⟨W.heap.size, 0, none⟩)] trivial (enters_of Tryz.func78 (by kernel_rfl) rfl) _ _ (by omega) (by omega) _ hseq
  change CallsIn _ _ Tryz.prog 46 _ _ _ at cS
  refine ((callsIn_wide (n := 5)).1 cS).mono ?_
  rintro e w' ⟨v, ss, rfl, hS, hrow, hnil, hb⟩
  have he : ss.mergeSort (fun x y => decide (x ≤ y)) = ids := by
    have p1 : (ss.mergeSort (fun x y => decide (x ≤ y))).Perm ids := (List.mergeSort_perm _ _).trans (hS.trans ((List.perm_ext_iff_of_nodup hnd (hids.imp (fun h => Int.ne_of_lt h))).2 (fun a => by rw [hk a, hmem a])))
    have s1 : (ss.mergeSort (fun x y => decide (x ≤ y))).Pairwise (fun x y => decide (x ≤ y) = true) := List.pairwise_mergeSort (fun a b c h1 h2 => by simp at *; omega) (fun a b => by simp; omega) ss
    exact List.Perm.eq_of_pairwise (le := fun x y : Int => decide (x ≤ y) = true) (fun a b _ _ h1 h2 => by simp at h1 h2; omega) s1 (hids.imp (fun h => by simp; omega)) p1
  have hl3 : ss.length = ids.length := by rw [← he, List.length_mergeSort]
  refine ⟨v, rfl, ?_, hb⟩
  rw [he, hl3] at hrow
  exact hrow
theorem keys_callM (W : World) (mb : Nat) : Calls Tryz.prog 62 #[.map (some mb)] W fun e W' => e = .returned (.func (.func 92) #[] #[.pointer (some ⟨W.heap.size, 0, none⟩)]) ∧ W' = W.alloc (.cells #[.map (some mb)] 103) := (callsIn_wide (n := 5)).1 (AnyZI.keys_in Tryz.keysM Fence.wide 5 trivial rfl (some mb) W)
set_option maxHeartbeats 1000000 in
theorem sorted_callM (W : World) (mb : Nat) (g : Int → Option Value) (ids : List Int) (hm : Mp (fun n : Int => I n) 3 W mb g) (hids : ids.Pairwise (· < ·)) (hmem : ∀ a, a ∈ ids ↔ R64 a ∧ g a ≠ none) (hlen : ids.length < 4100000000000) :
    Calls Tryz.prog 46 #[.func (.func 92) #[] #[.pointer (some ⟨W.heap.size, 0, none⟩)]] (W.alloc (.cells #[.map (some mb)] 103)) fun e W' => ∃ v, e = .returned v ∧ W'.ownsRow (W.alloc (.cells #[.map (some mb)] 103)).heap.size 3 1 v ids.length (ids.map fun z => I z) ∧ G (W.alloc (.cells #[.map (some mb)] 103)) W' := by
  obtain ⟨n, D, hown, hnd, hk, hsz⟩ := hm.keysI
  have hbl := hown.lt
  have hlen2 : (intKeys D).length = ids.length := by
    have hidn : ids.Nodup := hids.imp (fun h => Int.ne_of_lt h)
    exact ((List.perm_ext_iff_of_nodup hnd hidn).2 (fun a => by rw [hk a, hmem a])).length_eq
  have hsz2 : Maps.size D < 4100000000000 := by omega
  have hmx : (4100000000000 : Nat) ≤ maxLen := of_decide_eq_true (by kernel_rfl)
  have hseq : SeqGives Fence.wide 2 Tryz.prog 92 #[.pointer (some ⟨W.heap.size, 0, none⟩)] encZ (fun ss => ss.Perm (intKeys D)) (Maps.size D) (W.alloc (.cells #[.map (some mb)] 103)) :=
    AnyZI.keys_gives (ρ := Tryz.keysM_ren) { Tryz.keysM with } Fence.wide _ trivial rfl (by omega) W.heap.size mb n D _ (by simp) (by simp) (by
      obtain ⟨es, clock, hb, Ft, hs, hD⟩ := hown
      exact ⟨es, clock, (Below.heap_alloc _ _ mb hbl).trans hb, Ft, hs, hD⟩)
  have hsorts : ∀ m, AnyZI.SortsIn Tryz.prog Tryz.sortedI_ren Fence.wide m := fun m =>
    ⟨fun blk off cap ss W hH hblk hsz => callsIn_wide.2 (AnyM.slices_Sort_int Tryz.sortI blk off cap ss W hH hblk hsz),
     fun p cap W => callsIn_wide.2 (AnyM.slices_Sort_int_none Tryz.sortI p cap W)⟩
  have cS := AnyZI.sorted_in Tryz.sortedI Fence.wide 5 trivial trivial trivial trivial rfl (by omega) (hsorts _) (enters_of Tryz.func77 (by kernel_rfl) rfl) 92 #[.pointer (some ⟨W.heap.size, 0, none⟩)] trivial (enters_of Tryz.func92 (by kernel_rfl) rfl) _ _ (by omega) (by omega) _ hseq
  change CallsIn _ _ Tryz.prog 46 _ _ _ at cS
  refine ((callsIn_wide (n := 5)).1 cS).mono ?_
  rintro e w' ⟨v, ss, rfl, hS, hrow, hnil, hb⟩
  have he : ss.mergeSort (fun x y => decide (x ≤ y)) = ids := by
    have p1 : (ss.mergeSort (fun x y => decide (x ≤ y))).Perm ids := (List.mergeSort_perm _ _).trans (hS.trans ((List.perm_ext_iff_of_nodup hnd (hids.imp (fun h => Int.ne_of_lt h))).2 (fun a => by rw [hk a, hmem a])))
    have s1 : (ss.mergeSort (fun x y => decide (x ≤ y))).Pairwise (fun x y => decide (x ≤ y) = true) := List.pairwise_mergeSort (fun a b c h1 h2 => by simp at *; omega) (fun a b => by simp; omega) ss
    exact List.Perm.eq_of_pairwise (le := fun x y : Int => decide (x ≤ y) = true) (fun a b _ _ h1 h2 => by simp at h1 h2; omega) s1 (hids.imp (fun h => by simp; omega)) p1
  have hl3 : ss.length = ids.length := by rw [← he, List.length_mergeSort]
  refine ⟨v, rfl, ?_, hb⟩
  rw [he, hl3] at hrow
  exact hrow
theorem keys_callW (W : World) (mb : Nat) : Calls Tryz.prog 96 #[.map (some mb)] W fun e W' => e = .returned (.func (.func 127) #[] #[.pointer (some ⟨W.heap.size, 0, none⟩)]) ∧ W' = W.alloc (.cells #[.map (some mb)] 65) := (callsIn_wide (n := 5)).1 (AnyZI.keys_in Tryz.keysW Fence.wide 5 trivial rfl (some mb) W)
set_option maxHeartbeats 1000000 in
theorem sorted_callW (W : World) (mb : Nat) (g : Int → Option Value) (ids : List Int) (hm : Mp (fun n : Int => I n) 3 W mb g) (hids : ids.Pairwise (· < ·)) (hmem : ∀ a, a ∈ ids ↔ R64 a ∧ g a ≠ none) (hlen : ids.length < 4100000000000) :
    Calls Tryz.prog 46 #[.func (.func 127) #[] #[.pointer (some ⟨W.heap.size, 0, none⟩)]] (W.alloc (.cells #[.map (some mb)] 65)) fun e W' => ∃ v, e = .returned v ∧ W'.ownsRow (W.alloc (.cells #[.map (some mb)] 65)).heap.size 3 1 v ids.length (ids.map fun z => I z) ∧ G (W.alloc (.cells #[.map (some mb)] 65)) W' := by
  obtain ⟨n, D, hown, hnd, hk, hsz⟩ := hm.keysI
  have hbl := hown.lt
  have hlen2 : (intKeys D).length = ids.length := by
    have hidn : ids.Nodup := hids.imp (fun h => Int.ne_of_lt h)
    exact ((List.perm_ext_iff_of_nodup hnd hidn).2 (fun a => by rw [hk a, hmem a])).length_eq
  have hsz2 : Maps.size D < 4100000000000 := by omega
  have hmx : (4100000000000 : Nat) ≤ maxLen := of_decide_eq_true (by kernel_rfl)
  have hseq : SeqGives Fence.wide 2 Tryz.prog 127 #[.pointer (some ⟨W.heap.size, 0, none⟩)] encZ (fun ss => ss.Perm (intKeys D)) (Maps.size D) (W.alloc (.cells #[.map (some mb)] 65)) :=
    AnyZI.keys_gives (ρ := Tryz.keysW_ren) { Tryz.keysW with } Fence.wide _ trivial rfl (by omega) W.heap.size mb n D _ (by simp) (by simp) (by
      obtain ⟨es, clock, hb, Ft, hs, hD⟩ := hown
      exact ⟨es, clock, (Below.heap_alloc _ _ mb hbl).trans hb, Ft, hs, hD⟩)
  have hsorts : ∀ m, AnyZI.SortsIn Tryz.prog Tryz.sortedI_ren Fence.wide m := fun m =>
    ⟨fun blk off cap ss W hH hblk hsz => callsIn_wide.2 (AnyM.slices_Sort_int Tryz.sortI blk off cap ss W hH hblk hsz),
     fun p cap W => callsIn_wide.2 (AnyM.slices_Sort_int_none Tryz.sortI p cap W)⟩
  have cS := AnyZI.sorted_in Tryz.sortedI Fence.wide 5 trivial trivial trivial trivial rfl (by omega) (hsorts _) (enters_of Tryz.func77 (by kernel_rfl) rfl) 127 #[.pointer (some ⟨W.heap.size, 0, none⟩)] trivial (enters_of Tryz.func127 (by kernel_rfl) rfl) _ _ (by omega) (by omega) _ hseq
  change CallsIn _ _ Tryz.prog 46 _ _ _ at cS
  refine ((callsIn_wide (n := 5)).1 cS).mono ?_
  rintro e w' ⟨v, ss, rfl, hS, hrow, hnil, hb⟩
  have he : ss.mergeSort (fun x y => decide (x ≤ y)) = ids := by
    have p1 : (ss.mergeSort (fun x y => decide (x ≤ y))).Perm ids := (List.mergeSort_perm _ _).trans (hS.trans ((List.perm_ext_iff_of_nodup hnd (hids.imp (fun h => Int.ne_of_lt h))).2 (fun a => by rw [hk a, hmem a])))
    have s1 : (ss.mergeSort (fun x y => decide (x ≤ y))).Pairwise (fun x y => decide (x ≤ y) = true) := List.pairwise_mergeSort (fun a b c h1 h2 => by simp at *; omega) (fun a b => by simp; omega) ss
    exact List.Perm.eq_of_pairwise (le := fun x y : Int => decide (x ≤ y) = true) (fun a b _ _ h1 h2 => by simp at h1 h2; omega) s1 (hids.imp (fun h => by simp; omega)) p1
  have hl3 : ss.length = ids.length := by rw [← he, List.length_mergeSort]
  refine ⟨v, rfl, ?_, hb⟩
  rw [he, hl3] at hrow
  exact hrow
end Go.Proofs.YtkbgifhhnnfgoaaGreatDoor
