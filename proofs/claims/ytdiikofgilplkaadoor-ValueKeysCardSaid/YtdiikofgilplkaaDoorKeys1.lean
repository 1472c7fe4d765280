/- Keys of the index, part by part; a key that was laid; a name's bytes. -/
import Derived.Test.YtdiikofgilplkaaDoorLex
import Derived.Test.YtdiikofgilplkaaDoorOrd4
import Derived.Test.YtdiikofgilplkaaDoorOrd5
import Derived.Test.YtdiikofgilplkaaDoorNam4
import Derived.Test.YtdiikofgilplkaaDoorCompare
import Derived.Lib.ConvBytes
namespace Go.Proofs.YtdiikofgilplkaaDoor
open Go.RowKit

theorem laid_at (w : World) (ty : TypeId) (F : Nat → Nat) : (w.alloc (.cells #[.int .u8 0, .int .u8 0, .int .u8 0, .int .u8 0, .int .u8 0, .int .u8 0, .int .u8 0, .int .u8 0, .int .u8 0, .int .u8 0, .int .u8 0, .int .u8 0, .int .u8 0, .int .u8 0, .int .u8 0, .int .u8 0, .int .u8 0, .int .u8 0, .int .u8 0, .int .u8 0, .int .u8 0, .int .u8 0, .int .u8 0, .int .u8 0] ty)).there w.heap.size 0 24 ∧ G w ((w.alloc (.cells #[.int .u8 0, .int .u8 0, .int .u8 0, .int .u8 0, .int .u8 0, .int .u8 0, .int .u8 0, .int .u8 0, .int .u8 0, .int .u8 0, .int .u8 0, .int .u8 0, .int .u8 0, .int .u8 0, .int .u8 0, .int .u8 0, .int .u8 0, .int .u8 0, .int .u8 0, .int .u8 0, .int .u8 0, .int .u8 0, .int .u8 0, .int .u8 0] ty)).setCells w.heap.size 0 (cellsOf F).toArray.toList) ∧ ((w.alloc (.cells #[.int .u8 0, .int .u8 0, .int .u8 0, .int .u8 0, .int .u8 0, .int .u8 0, .int .u8 0, .int .u8 0, .int .u8 0, .int .u8 0, .int .u8 0, .int .u8 0, .int .u8 0, .int .u8 0, .int .u8 0, .int .u8 0, .int .u8 0, .int .u8 0, .int .u8 0, .int .u8 0, .int .u8 0, .int .u8 0, .int .u8 0, .int .u8 0] ty)).setCells w.heap.size 0 (cellsOf F).toArray.toList).rangeAt w.heap.size 0 (cellsOf F) ∧
    w.heap.size < ((w.alloc (.cells #[.int .u8 0, .int .u8 0, .int .u8 0, .int .u8 0, .int .u8 0, .int .u8 0, .int .u8 0, .int .u8 0, .int .u8 0, .int .u8 0, .int .u8 0, .int .u8 0, .int .u8 0, .int .u8 0, .int .u8 0, .int .u8 0, .int .u8 0, .int .u8 0, .int .u8 0, .int .u8 0, .int .u8 0, .int .u8 0, .int .u8 0, .int .u8 0] ty)).setCells w.heap.size 0 (cellsOf F).toArray.toList).heap.size := by
  have ht : (w.alloc (.cells #[.int .u8 0, .int .u8 0, .int .u8 0, .int .u8 0, .int .u8 0, .int .u8 0, .int .u8 0, .int .u8 0, .int .u8 0, .int .u8 0, .int .u8 0, .int .u8 0, .int .u8 0, .int .u8 0, .int .u8 0, .int .u8 0, .int .u8 0, .int .u8 0, .int .u8 0, .int .u8 0, .int .u8 0, .int .u8 0, .int .u8 0, .int .u8 0] ty)).there w.heap.size 0 24 := fun j hj => by
    have e : (w.alloc (.cells #[.int .u8 0, .int .u8 0, .int .u8 0, .int .u8 0, .int .u8 0, .int .u8 0, .int .u8 0, .int .u8 0, .int .u8 0, .int .u8 0, .int .u8 0, .int .u8 0, .int .u8 0, .int .u8 0, .int .u8 0, .int .u8 0, .int .u8 0, .int .u8 0, .int .u8 0, .int .u8 0, .int .u8 0, .int .u8 0, .int .u8 0, .int .u8 0] ty)).cell? ⟨w.heap.size, j, none⟩ = (#[.int .u8 0, .int .u8 0, .int .u8 0, .int .u8 0, .int .u8 0, .int .u8 0, .int .u8 0, .int .u8 0, .int .u8 0, .int .u8 0, .int .u8 0, .int .u8 0, .int .u8 0, .int .u8 0, .int .u8 0, .int .u8 0, .int .u8 0, .int .u8 0, .int .u8 0, .int .u8 0, .int .u8 0, .int .u8 0, .int .u8 0, .int .u8 0] : Array Value)[j]? := by simp
    rw [Nat.zero_add, e, z24_at j hj]
    exact ⟨rfl, by simp⟩
  have hr : ((w.alloc (.cells #[.int .u8 0, .int .u8 0, .int .u8 0, .int .u8 0, .int .u8 0, .int .u8 0, .int .u8 0, .int .u8 0, .int .u8 0, .int .u8 0, .int .u8 0, .int .u8 0, .int .u8 0, .int .u8 0, .int .u8 0, .int .u8 0, .int .u8 0, .int .u8 0, .int .u8 0, .int .u8 0, .int .u8 0, .int .u8 0, .int .u8 0, .int .u8 0] ty)).setCells w.heap.size 0 (cellsOf F)).rangeAt w.heap.size 0 (cellsOf F) := World.rangeAt_setCells_same _ _ _ _ (by rw [cellsOf_len]; exact ht)
  exact ⟨ht, G.setCells _ ((G.refl w).alloc _) (Nat.le_refl _), hr, World.block_lt_of_cell? _ ⟨w.heap.size, 0, none⟩ (hr 0 (bv (F 0)) rfl)⟩
/-- Bytes o .. o + n - 1 of a key. -/
def sub (F : Nat → Nat) (o n : Nat) : List Nat := (List.range n).map fun j => F (o + j)
theorem sub_len (F : Nat → Nat) (o n : Nat) : (sub F o n).length = n := by simp [sub]
theorem sub_at (F : Nat → Nat) (o n i : Nat) (h : i < n) : (sub F o n)[i]? = some (F (o + i)) := by simp [sub, h]
theorem sub_eq (F : Nat → Nat) (o n : Nat) (h : o + n ≤ 24) : sub F o n = (((List.range 24).map F).drop o).take n := by
  refine List.ext_getElem? fun i => ?_
  rw [List.getElem?_take, List.getElem?_drop, List.getElem?_map]
  by_cases c : i < n
  · rw [sub_at F o n i c, if_pos c, List.getElem?_range (by omega)]; rfl
  · rw [if_neg c, List.getElem?_eq_none (by rw [sub_len]; omega)]
theorem sub_row {W : World} {g : Nat} {F : Nat → Nat} (h : W.rangeAt g 0 (cellsOf F)) (o n cap : Nat) (hn : o + n ≤ 24) (hc : n ≤ cap) : RowB W (.slice (some ⟨g, o, none⟩) n cap) (sub F o n) :=
  ⟨_, _, by rw [sub_len], by rw [sub_len]; exact hc, fun i d hi => by
    have hin : i < n := by have := (List.getElem?_eq_some_iff.1 hi).1; rwa [sub_len] at this
    rw [sub_at F o n i hin] at hi
    cases hi
    refine ⟨g, o, rfl, ?_⟩
    have := h (o + i) (bv (F (o + i))) (by rw [cellsOf, List.getElem?_map, List.getElem?_range (by omega)]; rfl)
    rwa [Nat.zero_add] at this⟩
theorem pad8_len (ys : List Nat) : (pad8 ys).length = 8 := by simp [pad8]
theorem pad8_lt {ys : List Nat} (h : ∀ d ∈ ys, d < 256) : ∀ d ∈ pad8 ys, d < 256 := fun d hd => by
  simp only [pad8, List.mem_map, List.mem_range] at hd
  obtain ⟨j, _, rfl⟩ := hd
  by_cases c : j < ys.length
  · rw [List.getD_eq_getElem?_getD, List.getElem?_eq_getElem c, Option.getD_some]; exact h _ (List.getElem_mem c)
  · rw [List.getD_eq_getElem?_getD, List.getElem?_eq_none (by omega)]; decide
section
variable (pl pm : Nat) (ys : List Nat) (id : Nat)
theorem key_all : sub (keyF pl pm ys id) 0 24 = hiB 6 pl ++ (hiB 6 pm ++ (pad8 ys ++ hiB 4 id)) := by
  rw [sub_eq _ _ _ (by omega), keyF_parts, List.drop_zero, List.take_of_length_le (by simp [hiB_len, pad8_len])]
  simp
theorem key_12 : sub (keyF pl pm ys id) 0 12 = hiB 6 pl ++ hiB 6 pm := by
  rw [sub_eq _ _ _ (by omega), keyF_parts, List.drop_zero, List.append_assoc (hiB 6 pl ++ hiB 6 pm), List.take_append_of_le_length (by simp [hiB_len]), List.take_of_length_le (by simp [hiB_len])]
theorem key_8 : sub (keyF pl pm ys id) 12 8 = pad8 ys := by
  rw [sub_eq _ _ _ (by omega), keyF_parts, List.append_assoc (hiB 6 pl ++ hiB 6 pm), List.drop_append_of_le_length (by simp [hiB_len]), List.drop_eq_nil_of_le (by simp [hiB_len]), List.nil_append, List.take_append_of_le_length (by simp [pad8_len]), List.take_of_length_le (by simp [pad8_len])]
theorem key_4 : sub (keyF pl pm ys id) 20 4 = hiB 4 id := by
  rw [sub_eq _ _ _ (by omega), keyF_parts, List.drop_append_of_le_length (by simp [hiB_len, pad8_len]), List.drop_eq_nil_of_le (by simp [hiB_len, pad8_len]), List.nil_append, List.take_of_length_le (by simp [hiB_len])]
end
theorem key_lt (pl pm : Nat) (ys : List Nat) (id : Nat) (h : ∀ d ∈ ys, d < 256) (j : Nat) (hj : j < 24) : keyF pl pm ys id j < 256 := by
  have hm : keyF pl pm ys id j ∈ sub (keyF pl pm ys id) 0 24 := List.mem_of_getElem? (by rw [sub_at _ 0 24 j hj, Nat.zero_add])
  rw [key_all] at hm
  rcases List.mem_append.1 hm with hm | hm
  · exact hiB_lt _ _ _ hm
  rcases List.mem_append.1 hm with hm | hm
  · exact hiB_lt _ _ _ hm
  rcases List.mem_append.1 hm with hm | hm
  · exact pad8_lt h _ hm
  · exact hiB_lt _ _ _ hm
theorem sub_lt {F : Nat → Nat} (h : ∀ j, j < 24 → F j < 256) (o n : Nat) (hn : o + n ≤ 24) : ∀ d ∈ sub F o n, d < 256 := fun d hd => by
  simp only [sub, List.mem_map, List.mem_range] at hd
  obtain ⟨j, hj, rfl⟩ := hd
  exact h _ (by omega)
/-- How two keys stand: by the names. -/
theorem key_names {l m : ByteArray} (hl : NameP l) (hm : NameP m) (pl pm : Nat) (el : (pl : Int) = packK l 8) (em : (pm : Int) = packK m 8) (ys zs : List Nat) (p q : Nat) :
    (lx (nats l) (nats m) = -1 ∧ (pl : Int) < pm ∧ lx (sub (keyF pl pm ys p) 0 24) (sub (keyF pm pl zs q) 0 24) = -1) ∨ (lx (nats l) (nats m) = 1 ∧ (pm : Int) < pl ∧ lx (sub (keyF pl pm ys p) 0 24) (sub (keyF pm pl zs q) 0 24) = 1) ∨ (lx (nats l) (nats m) = 0 ∧ (pl : Int) = pm) := by
  have bl : pl < 256 ^ 6 := by have := (packK_bd l hl 8).2; rw [← el] at this; omega
  have bm : pm < 256 ^ 6 := by have := (packK_bd m hm 8).2; rw [← em] at this; omega
  rw [key_all, key_all]
  rcases lx_cases (nats l) (nats m) with h | h | ⟨h, he⟩
  · have := pack_less hl hm h
    rw [← el, ← em] at this
    exact .inl ⟨h, this, (((hiB_ls bm (by omega : pl < pm)).app _ _).lt).1⟩
  · have h' : lx (nats m) (nats l) = -1 := by rw [lx_flip, h]
    have := pack_less hm hl h'
    rw [← el, ← em] at this
    exact .inr (.inl ⟨h, this, (((hiB_ls bl (by omega : pm < pl)).app _ _).lt).2⟩)
  · have := nats_inj he
    subst this
    exact .inr (.inr ⟨h, by rw [el, em]⟩)
theorem key_ids (p q : Nat) (hp : p ≤ 4294967295) (hq : q ≤ 4294967295) (pl pm : Nat) (ys zs : List Nat) : ((p : Int) < q ∧ lx (sub (keyF pl pm ys p) 20 4) (sub (keyF pl pm zs q) 20 4) = -1) ∨ ((q : Int) < p ∧ lx (sub (keyF pl pm ys p) 20 4) (sub (keyF pl pm zs q) 20 4) = 1) ∨ ((p : Int) = q ∧ lx (sub (keyF pl pm ys p) 20 4) (sub (keyF pl pm zs q) 20 4) = 0) := by
  rw [key_4, key_4]
  rcases Nat.lt_trichotomy p q with h | h | h
  · exact .inl ⟨by omega, ((hiB_ls (by omega) h).lt).1⟩
  · subst h; exact .inr (.inr ⟨rfl, lx_self _⟩)
  · exact .inr (.inl ⟨by omega, ((hiB_ls (by omega) h).lt).2⟩)
/-- '[]byte(s)'. -/
theorem conv_run (s : ByteArray) (w : World) : (convert 9 23 (.string s)).run Tryd.prog w = .ok (.slice (some ⟨w.heap.size, 0, none⟩) s.size (grownCap w s.size 0 5)) (Lib.bytesWorld w 5 s) :=
  Lib.run_convert_string_bytes w 9 23 5 s Tryd.underlying9 Tryd.underlying23 Tryd.underlying5
theorem conv_G (s : ByteArray) (w : World) : G w (Lib.bytesWorld w 5 s) := ⟨rfl, rfl, rfl, by rw [Lib.bytesWorld_size]; omega, fun j hj => Lib.bytesWorld_at_old w 5 s j hj⟩
theorem conv_row (s : ByteArray) (w : World) : RowB (Lib.bytesWorld w 5 s) (.slice (some ⟨w.heap.size, 0, none⟩) s.size (grownCap w s.size 0 5)) (nats s) := by
  have hl : (nats s).length = s.size := by rw [nats_eq, List.length_map, Array.length_toList]; rfl
  refine ⟨_, _, by rw [hl], by rw [hl]; exact grownCap_ge _ _ _ _, fun i d hi => ?_⟩
  have hin : i < s.size := by have := (List.getElem?_eq_some_iff.1 hi).1; rwa [hl] at this
  refine ⟨_, _, rfl, ?_⟩
  rw [Nat.zero_add, Lib.bytesWorld_cell w 5 s i hin]
  rw [nats_eq, List.getElem?_map] at hi
  obtain ⟨u, hu, rfl⟩ := Option.map_eq_some_iff.1 hi
  rw [List.getD_eq_getElem?_getD, hu]; rfl
theorem nats_lt (s : ByteArray) : ∀ d ∈ nats s, d < 256 := fun d hd => by
  rw [nats_eq] at hd
  simp only [List.mem_map] at hd
  obtain ⟨u, _, rfl⟩ := hd
  exact u.toNat_lt
theorem nats_len (s : ByteArray) : (nats s).length = s.size := by rw [nats_eq, List.length_map, Array.length_toList]; rfl
end Go.Proofs.YtdiikofgilplkaaDoor
