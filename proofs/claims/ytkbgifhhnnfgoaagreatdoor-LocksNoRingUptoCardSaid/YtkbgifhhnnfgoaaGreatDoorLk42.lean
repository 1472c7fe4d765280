/- Locks: the places of a transaction. -/
import Derived.Test.YtkbgifhhnnfgoaaGreatDoorLk37
import Derived.Test.YtkbgifhhnnfgoaaGreatDoorShSc
import Derived.Shelf.Small.Strs
import Derived.Sort.Grow
import Derived.Deep.RegionHeld3
import Derived.Test.YtkbgifhhnnfgoaaGreatDoorShSf
import Derived.Shelf.SlSortCmp.WholeK
import Derived.Sort.OwnSortedInts
namespace Go.Proofs.YtkbgifhhnnfgoaaGreatDoor
section
section
section
section
open Go.RowKit Go.Sort

def cI (x y : Int) : Int := if x < y then -1 else if y < x then 1 else 0
def io (a b : Rs) : Int := if cI a.lv b.lv ≠ 0 then cI a.lv b.lv else if Lib.compareBytes a.lb.data.toList b.lb.data.toList ≠ 0 then Lib.compareBytes a.lb.data.toList b.lb.data.toList else cI a.id b.id
theorem nci (x : Int) (w : World) : Calls Tryz.prog 124 #[I x] w fun e w' => e = .returned (.bool false) ∧ w' = w := by
  go_enter Tryz.func124, Tryz.ntmps124
  go_wp2
  go_ret
  exact ⟨by simp, rfl⟩
theorem ci_any (x y : Int) (w : World) : Calls Tryz.prog 88 #[I x, I y] w fun e w' => e = .returned (I (cI x y)) ∧ w' = w := by
  have K := hide (fun z => nci z w)
  by_cases h1 : x < y
  · have e : cI x y = -1 := by unfold cI; rw [if_pos h1]
    rw [e]
    clear e
    go_enter Tryz.func88, Tryz.ntmps88
    go_wp2_with (first | (go_at_call 124; with_reducible refine (K.out _).mono ?_; rintro e w' ⟨rfl, rfl⟩) | fail)
    go_ret
    exact ⟨rfl, rfl⟩
  · by_cases h2 : y < x
    · have e : cI x y = 1 := by unfold cI; rw [if_neg h1, if_pos h2]
      rw [e]
      clear e
      go_enter Tryz.func88, Tryz.ntmps88
      go_wp2_with (first | (go_at_call 124; with_reducible refine (K.out _).mono ?_; rintro e w' ⟨rfl, rfl⟩) | fail)
      go_ret
      exact ⟨rfl, rfl⟩
    · have e : cI x y = 0 := by unfold cI; rw [if_neg h1, if_neg h2]
      rw [e]
      clear e
      go_enter Tryz.func88, Tryz.ntmps88
      go_wp2_with (first | (go_at_call 124; with_reducible refine (K.out _).mono ?_; rintro e w' ⟨rfl, rfl⟩) | fail)
      go_ret
      exact ⟨rfl, rfl⟩
theorem ncl (x : Int) (w : World) : Calls Tryz.prog 126 #[I x] w fun e w' => e = .returned (.bool false) ∧ w' = w := by
  go_enter Tryz.func126, Tryz.ntmps126
  go_wp2
  go_ret
  exact ⟨by simp, rfl⟩
theorem cl_any (x y : Int) (w : World) : Calls Tryz.prog 90 #[I x, I y] w fun e w' => e = .returned (I (cI x y)) ∧ w' = w := by
  have K := hide (fun z => ncl z w)
  by_cases h1 : x < y
  · have e : cI x y = -1 := by unfold cI; rw [if_pos h1]
    rw [e]
    clear e
    go_enter Tryz.func90, Tryz.ntmps90
    go_wp2_with (first | (go_at_call 126; with_reducible refine (K.out _).mono ?_; rintro e w' ⟨rfl, rfl⟩) | fail)
    go_ret
    exact ⟨rfl, rfl⟩
  · by_cases h2 : y < x
    · have e : cI x y = 1 := by unfold cI; rw [if_neg h1, if_pos h2]
      rw [e]
      clear e
      go_enter Tryz.func90, Tryz.ntmps90
      go_wp2_with (first | (go_at_call 126; with_reducible refine (K.out _).mono ?_; rintro e w' ⟨rfl, rfl⟩) | fail)
      go_ret
      exact ⟨rfl, rfl⟩
    · have e : cI x y = 0 := by unfold cI; rw [if_neg h1, if_neg h2]
      rw [e]
      clear e
      go_enter Tryz.func90, Tryz.ntmps90
      go_wp2_with (first | (go_at_call 126; with_reducible refine (K.out _).mono ?_; rintro e w' ⟨rfl, rfl⟩) | fail)
      go_ret
      exact ⟨rfl, rfl⟩
theorem cs_any (a b : ByteArray) (w : World) : Calls Tryz.prog 89 #[.string a, .string b] w fun e w' => e = .returned (I (Lib.compareBytes a.data.toList b.data.toList)) ∧ w' = w := Any.strings_Compare Tryz.laysStrCmp a b w
set_option maxRecDepth 100000 in
set_option maxHeartbeats 400000 in
theorem or_any (b : Nat) (x y z : Int) (w : World) (hb : Blk w b 3 [I x, I y, I z]) : Calls Tryz.prog 87 #[.slice (some ⟨b, 0, none⟩) 3 3] w fun e w' => e = .returned (I (if x ≠ 0 then x else if y ≠ 0 then y else z)) ∧ w' = w := by
  have h0 : w.cell? ⟨b, 0, none⟩ = some (I x) := hb.cell 0
  have h1 : w.cell? ⟨b, 1, none⟩ = some (I y) := hb.cell 1
  have h2 : w.cell? ⟨b, 2, none⟩ = some (I z) := hb.cell 2
  clear hb
  by_cases e0 : x = 0
  · have b0 : (x != 0) = false := by simp [e0]
    rw [if_neg (by simp [e0])]
    by_cases e1 : y = 0
    · have b1 : (y != 0) = false := by simp [e1]
      rw [if_neg (by simp [e1])]
      by_cases e2 : z = 0
      · subst e0 e1 e2
        clear b0 b1
        go_enter Tryz.func87, Tryz.ntmps87
        go_wp2
        refine wp_loop_rounds 4 ?_
        rw [rounds_succ]
        go_wp2
        rw [rounds_succ]
        go_wp2
        rw [rounds_succ]
        go_wp2
        rw [rounds_succ]
        go_wp2
        go_ret
        exact ⟨rfl, rfl⟩
      · have b2 : (z != 0) = true := by simp [e2]
        subst e0 e1
        clear b0 b1
        go_enter Tryz.func87, Tryz.ntmps87
        go_wp2
        refine wp_loop_rounds 3 ?_
        rw [rounds_succ]
        go_wp2
        rw [rounds_succ]
        go_wp2
        rw [rounds_succ]
        go_wp2
        go_ret
        exact ⟨rfl, rfl⟩
    · rw [if_pos e1]
      subst e0
      clear b0
      go_enter Tryz.func87, Tryz.ntmps87
      go_wp2
      refine wp_loop_rounds 2 ?_
      rw [rounds_succ]
      go_wp2
      rw [rounds_succ]
      go_wp2
      go_ret
      exact ⟨rfl, rfl⟩
  · rw [if_pos e0]
    go_enter Tryz.func87, Tryz.ntmps87
    go_wp2
    refine wp_loop_rounds 1 ?_
    rw [rounds_succ]
    go_wp2
    go_ret
    exact ⟨rfl, rfl⟩
end
open Go.RowKit Go.Sort

set_option maxRecDepth 100000 in
set_option maxHeartbeats 1000000 in
theorem in_order (a b : Rs) (w : World) : Calls Tryz.prog 58 #[a.v, b.v] w fun e w' => e = .returned (I (io a b)) ∧ ∃ q os, w' = grow (w.drewN q) os := by
  have ka := (Blk.new w [I a.lv, .string a.lb, I a.id] 24).G ((G.refl _).alloc (.cells #[I b.lv, .string b.lb, I b.id] 24))
  have kb := Blk.new (w.alloc (.cells #[I a.lv, .string a.lb, I a.id] 24)) [I b.lv, .string b.lb, I b.id] 24
  rw [World.size_alloc] at kb
  have hS : (fun W : World => (∀ o, W.cell? ⟨w.heap.size, o, none⟩ = ([I a.lv, .string a.lb, I a.id] : List Value)[o]?) ∧ (∀ o, W.cell? ⟨w.heap.size + 1, o, none⟩ = ([I b.lv, .string b.lb, I b.id] : List Value)[o]?)) (((w.alloc (.cells #[I a.lv, .string a.lb, I a.id] 24)).alloc (.cells #[I b.lv, .string b.lb, I b.id] 24))).drew := ⟨ka.drew.cell, kb.drew.cell⟩
  have HS := hide hS
  have HA := hide ka
  have HB := hide kb
  have HW : Hid (∃ q os, (((w.alloc (.cells #[I a.lv, .string a.lb, I a.id] 24)).alloc (.cells #[I b.lv, .string b.lb, I b.id] 24))).drew = grow (w.drewN q) os) := ⟨1, #[.cells #[I a.lv, .string a.lb, I a.id] 24, .cells #[I b.lv, .string b.lb, I b.id] 24], by
    rw [alloc_eq_grow, alloc_eq_grow, grow_grow]; rfl⟩
  obtain ⟨c1, h1⟩ : ∃ c, c = cI a.lv b.lv := ⟨_, rfl⟩
  obtain ⟨c2, h2⟩ : ∃ c, c = Lib.compareBytes a.lb.data.toList b.lb.data.toList := ⟨_, rfl⟩
  obtain ⟨c3, h3⟩ : ∃ c, c = cI a.id b.id := ⟨_, rfl⟩
  have K1 : Hid (∀ W, Calls Tryz.prog 88 #[I a.lv, I b.lv] W fun e w' => e = .returned (I c1) ∧ w' = W) := fun W => by rw [h1]; exact ci_any _ _ W
  have K2 : Hid (∀ W, Calls Tryz.prog 89 #[.string a.lb, .string b.lb] W fun e w' => e = .returned (I c2) ∧ w' = W) := fun W => by rw [h2]; exact cs_any _ _ W
  have K3 : Hid (∀ W, Calls Tryz.prog 90 #[I a.id, I b.id] W fun e w' => e = .returned (I c3) ∧ w' = W) := fun W => by rw [h3]; exact cl_any _ _ W
  have hio : io a b = (if c1 ≠ 0 then c1 else if c2 ≠ 0 then c2 else c3) := by unfold io; rw [h1, h2, h3]
  rw [hio]
  obtain ⟨R, hR⟩ : ∃ R, R = (if c1 ≠ 0 then c1 else if c2 ≠ 0 then c2 else c3) := ⟨_, rfl⟩
  have K4 : Hid (∀ W : World, Calls Tryz.prog 87 #[.slice (some ⟨W.heap.size, 0, none⟩) 3 3] ((W.alloc (.cells #[I c1, I c2, I c3] 3)).drew) fun e w' => e = .returned (I R) ∧ w' = (W.alloc (.cells #[I c1, I c2, I c3] 3)).drew) := fun W => by rw [hR]; exact or_any _ _ _ _ _ (Blk.new W [I c1, I c2, I c3] 3).drew
  rw [← hR]
  clear h1 h2 h3 hio hR ka kb hS
  simp only [Rs.v]
  go_enter Tryz.func58, Tryz.ntmps58
  go_wp2
  generalize ((w.alloc (.cells #[I a.lv, .string a.lb, I a.id] 24)).alloc (.cells #[I b.lv, .string b.lb, I b.id] 24)) = V at HS HW HA HB ⊢
  obtain ⟨hx, hy⟩ := HS.out
  go_region_held3 (fun W : World => (∀ o, W.cell? ⟨w.heap.size, o, none⟩ = ([I a.lv, .string a.lb, I a.id] : List Value)[o]?) ∧ (∀ o, W.cell? ⟨w.heap.size + 1, o, none⟩ = ([I b.lv, .string b.lb, I b.id] : List Value)[o]?)) (first | exact HS.out | exact ⟨(HA.out.G ((G.refl V).alloc _)).drew.cell, (HB.out.G ((G.refl V).alloc _)).drew.cell⟩) (first | (go_at_call 88; with_reducible refine (K1.out _).mono ?_; rintro e w5 ⟨rfl, rfl⟩) | (go_at_call 89; with_reducible refine (K2.out _).mono ?_; rintro e w5 ⟨rfl, rfl⟩) | (go_at_call 90; with_reducible refine (K3.out _).mono ?_; rintro e w5 ⟨rfl, rfl⟩) | (go_at_call 87; with_reducible refine (K4.out _).mono ?_; rintro e w5 ⟨rfl, rfl⟩) | fail)
  all_goals (go_wp2; go_ret)
  all_goals (obtain ⟨q, os, hw⟩ := HW.out; refine ⟨rfl, q, os ++ #[.cells #[I c1, I c2, I c3] 3], ?_⟩; show V.drew.alloc _ = _; rw [hw, alloc_eq_grow, grow_grow])
end
open Go.RowKit Go.Sort

theorem cI_lt (x y : Int) : cI x y < 0 ↔ x < y := by
  unfold cI
  split
  · simp_all
  · split <;> simp_all
theorem cI_eq (x y : Int) : cI x y = 0 ↔ x = y := by
  unfold cI
  split
  · simp; omega
  · split
    · simp; omega
    · simp; omega
def bLt (a b : List UInt8) : Prop := Lib.compareBytes a b < 0
theorem cB_eq : ∀ (a b : List UInt8), Lib.compareBytes a b = 0 ↔ a = b
  | [], [] => by simp [Lib.compareBytes]
  | [], _ :: _ => by simp [Lib.compareBytes]
  | _ :: _, [] => by simp [Lib.compareBytes]
  | x :: a, y :: b => by
    have ih := cB_eq a b
    unfold Lib.compareBytes
    by_cases h1 : x < y
    · rw [if_pos h1]
      have : x ≠ y := fun e => by rw [e] at h1; exact UInt8.lt_irrefl _ h1
      simp [this]
    · rw [if_neg h1]
      by_cases h2 : y < x
      · rw [if_pos h2]
        have : x ≠ y := fun e => by rw [e] at h2; exact UInt8.lt_irrefl _ h2
        simp [this]
      · rw [if_neg h2, ih]
        have : x = y := UInt8.le_antisymm (UInt8.not_lt.1 h2) (UInt8.not_lt.1 h1)
        simp [this]
theorem bLt_cons (x y : UInt8) (a b : List UInt8) : bLt (x :: a) (y :: b) ↔ x < y ∨ (x = y ∧ bLt a b) := by
  unfold bLt
  rw [Lib.compareBytes]
  by_cases h1 : x < y
  · rw [if_pos h1]; simp [h1]
  · rw [if_neg h1]
    by_cases h2 : y < x
    · rw [if_pos h2]
      have : x ≠ y := fun e => by rw [e] at h2; exact UInt8.lt_irrefl _ h2
      simp [h1, this]
    · rw [if_neg h2]
      have : x = y := UInt8.le_antisymm (UInt8.not_lt.1 h2) (UInt8.not_lt.1 h1)
      simp [this, UInt8.lt_irrefl]
theorem bLt_nil (a : List UInt8) : ¬ bLt a [] := by
  cases a <;> simp [bLt, Lib.compareBytes]
theorem bLt_trans : ∀ (a b c : List UInt8), bLt a b → bLt b c → bLt a c
  | _, [], _, h1, _ => absurd h1 (bLt_nil _)
  | _, _ :: _, [], _, h2 => absurd h2 (bLt_nil _)
  | [], _ :: _, _ :: _, _, _ => by simp [bLt, Lib.compareBytes]
  | x :: a, y :: b, z :: c, h1, h2 => by
    rw [bLt_cons] at h1 h2 ⊢
    rcases h1 with h1 | ⟨rfl, h1⟩
    · rcases h2 with h2 | ⟨rfl, h2⟩
      · exact .inl (UInt8.lt_trans h1 h2)
      · exact .inl h1
    · rcases h2 with h2 | ⟨rfl, h2⟩
      · exact .inl h2
      · exact .inr ⟨rfl, bLt_trans a b c h1 h2⟩
theorem bLt_tot : ∀ (a b : List UInt8), bLt a b ∨ a = b ∨ bLt b a
  | [], [] => .inr (.inl rfl)
  | [], _ :: _ => .inl (by simp [bLt, Lib.compareBytes])
  | _ :: _, [] => .inr (.inr (by simp [bLt, Lib.compareBytes]))
  | x :: a, y :: b => by
    rw [bLt_cons, bLt_cons]
    by_cases h1 : x < y
    · exact .inl (.inl h1)
    by_cases h2 : y < x
    · exact .inr (.inr (.inl h2))
    have e : x = y := UInt8.le_antisymm (UInt8.not_lt.1 h2) (UInt8.not_lt.1 h1)
    subst e
    rcases bLt_tot a b with h | h | h
    · exact .inl (.inr ⟨rfl, h⟩)
    · exact .inr (.inl (by rw [h]))
    · exact .inr (.inr (.inr ⟨rfl, h⟩))
/-- The order of resources. -/
def rLt (a b : Rs) : Prop := a.lv < b.lv ∨ (a.lv = b.lv ∧ (bLt a.lb.data.toList b.lb.data.toList ∨ (a.lb = b.lb ∧ a.id < b.id)))
theorem lb_ext {a b : ByteArray} (h : a.data.toList = b.data.toList) : a = b := by
  cases a; cases b; simp at h; rw [h]
theorem io_lt (a b : Rs) : io a b < 0 ↔ rLt a b := by
  unfold io rLt
  by_cases h1 : cI a.lv b.lv = 0
  · rw [if_neg (by simp [h1])]
    have e1 := (cI_eq _ _).1 h1
    by_cases h2 : Lib.compareBytes a.lb.data.toList b.lb.data.toList = 0
    · rw [if_neg (by simp [h2]), cI_lt]
      have e2 := lb_ext ((cB_eq _ _).1 h2)
      have n2 : ¬ bLt a.lb.data.toList b.lb.data.toList := by unfold bLt; omega
      constructor
      · intro h; exact .inr ⟨e1, .inr ⟨e2, h⟩⟩
      · rintro (h | ⟨-, h | ⟨-, h⟩⟩)
        · omega
        · exact absurd h n2
        · exact h
    · rw [if_pos h2]
      have n2 : ¬ a.lb = b.lb := fun e => h2 ((cB_eq _ _).2 (by rw [e]))
      constructor
      · intro h; exact .inr ⟨e1, .inl h⟩
      · rintro (h | ⟨-, h | ⟨h, -⟩⟩)
        · omega
        · exact h
        · exact absurd h n2
  · rw [if_pos h1, cI_lt]
    have n1 : ¬ a.lv = b.lv := fun e => h1 ((cI_eq _ _).2 e)
    constructor
    · intro h; exact .inl h
    · rintro (h | ⟨h, -⟩)
      · exact h
      · exact absurd h n1
theorem rLt_irrefl (a : Rs) : ¬ rLt a a := by
  have n : ¬ bLt a.lb.data.toList a.lb.data.toList := by
    unfold bLt
    rw [(cB_eq _ _).2 rfl]; omega
  rintro (h | ⟨-, h | ⟨-, h⟩⟩)
  · omega
  · exact n h
  · omega
theorem rLt_trans {a b c : Rs} (h1 : rLt a b) (h2 : rLt b c) : rLt a c := by
  rcases h1 with h1 | ⟨e1, h1⟩
  · rcases h2 with h2 | ⟨e2, -⟩
    · exact .inl (by omega)
    · exact .inl (by omega)
  · rcases h2 with h2 | ⟨e2, h2⟩
    · exact .inl (by omega)
    · refine .inr ⟨by omega, ?_⟩
      rcases h1 with h1 | ⟨f1, h1⟩
      · rcases h2 with h2 | ⟨f2, h2⟩
        · exact .inl (bLt_trans _ _ _ h1 h2)
        · exact .inl (by rw [← f2]; exact h1)
      · rcases h2 with h2 | ⟨f2, h2⟩
        · exact .inl (by rw [f1]; exact h2)
        · exact .inr ⟨f1.trans f2, by omega⟩
theorem rLt_tot (a b : Rs) : rLt a b ∨ a = b ∨ rLt b a := by
  unfold rLt
  by_cases h1 : a.lv < b.lv
  · exact .inl (.inl h1)
  by_cases h2 : b.lv < a.lv
  · exact .inr (.inr (.inl h2))
  have e1 : a.lv = b.lv := by omega
  rcases bLt_tot a.lb.data.toList b.lb.data.toList with h | h | h
  · exact .inl (.inr ⟨e1, .inl h⟩)
  · have e2 := lb_ext h
    by_cases h3 : a.id < b.id
    · exact .inl (.inr ⟨e1, .inr ⟨e2, h3⟩⟩)
    by_cases h4 : b.id < a.id
    · exact .inr (.inr (.inr ⟨e1.symm, .inr ⟨e2.symm, h4⟩⟩))
    · refine .inr (.inl ?_)
      have e3 : a.id = b.id := by omega
      cases a; cases b; simp_all
  · exact .inr (.inr (.inr ⟨e1.symm, .inl h⟩))
theorem io_swo : SWO (ltOf io) := by
  refine ⟨fun x => ?_, fun x y z h1 h2 => ?_, fun x y z h1 h2 => ?_⟩
  · exact decide_eq_false (fun h => rLt_irrefl x ((io_lt _ _).1 h))
  · have h1 := (io_lt _ _).1 (of_decide_eq_true h1)
    have h2 := (io_lt _ _).1 (of_decide_eq_true h2)
    exact decide_eq_true ((io_lt _ _).2 (rLt_trans h1 h2))
  · have h1 : ¬ rLt x y := fun h => of_decide_eq_false h1 ((io_lt _ _).2 h)
    have h2 : ¬ rLt y z := fun h => of_decide_eq_false h2 ((io_lt _ _).2 h)
    refine decide_eq_false (fun h => ?_)
    have h := (io_lt _ _).1 h
    rcases rLt_tot x y with g | g | g
    · exact h1 g
    · rw [g] at h; exact h2 h
    · exact h2 (rLt_trans g h)
set_option maxRecDepth 100000 in
set_option maxHeartbeats 1000000 in
theorem ins_zero (v fv : Value) (w : World) : Calls Tryz.prog 114 #[v, I 0, I 0, fv] w fun e w' => e = .returned (.tuple #[]) ∧ w' = w := by
  go_enter Tryz.func114, Tryz.ntmps114
  go_wp2
  go_loopw [8] (fun i wr => i = I 1 ∧ wr = w) (fun _ _ => 0)
  case atStart => exact ⟨rfl, rfl⟩
  case round =>
    obtain ⟨rfl, rfl⟩ := hrel
    go_wp2
    go_end0
    exact ⟨rfl, rfl⟩
set_option maxRecDepth 100000 in
set_option maxHeartbeats 1000000 in
theorem len64_zero (w : World) : Calls Tryz.prog 123 #[.int .u64 0] w fun e w' => (∃ k, e = .returned (I k)) ∧ w' = w := by
  go_enter Tryz.func123, Tryz.ntmps123
  go_wp2
  go_ret
  exact ⟨⟨_, rfl⟩, rfl⟩
set_option maxRecDepth 100000 in
set_option maxHeartbeats 1000000 in
theorem len_zero (w : World) : Calls Tryz.prog 86 #[.int .u64 0] w fun e w' => (∃ k, e = .returned (I k)) ∧ w' = w := by
  have K := hide (len64_zero w)
  go_enter Tryz.func86, Tryz.ntmps86
  go_wp2_with (first | (go_at_call 123; refine K.out.mono ?_; rintro e w' ⟨⟨k, rfl⟩, rfl⟩) | fail)
  go_ret
  exact ⟨⟨_, rfl⟩, rfl⟩
set_option maxRecDepth 100000 in
set_option maxHeartbeats 1000000 in
theorem pdq_zero (v fv : Value) (k : Int) (w : World) : Calls Tryz.prog 85 #[v, I 0, I 0, I k, fv] w fun e w' => e = .returned (.tuple #[]) ∧ w' = w := by
  have K := hide (ins_zero v fv w)
  go_enter Tryz.func85, Tryz.ntmps85
  go_wp2
  go_loopw [1, 2, 3] (fun a b c wr => a = I 0 ∧ b = I 0 ∧ c = I k ∧ wr = w) (fun _ _ _ _ => 0)
  case atStart => exact ⟨rfl, rfl, rfl, rfl⟩
  case round =>
    obtain ⟨rfl, rfl, rfl, rfl⟩ := hrel
    go_wp2_with (first | (go_at_call 114; refine K.out.mono ?_; rintro e w' ⟨rfl, rfl⟩) | fail)
    refine bodyPost_ret (results_none rfl _ _ _) rfl ?_
    exact ⟨rfl, rfl⟩
set_option maxRecDepth 100000 in
set_option maxHeartbeats 1000000 in
theorem sortF_zero (a : Option Addr) (c : Nat) (fv : Value) (w : World) : Calls Tryz.prog 57 #[.slice a 0 c, fv] w fun e w' => e = .returned (.tuple #[]) ∧ w' = w := by
  have K := hide (len_zero w)
  have K2 := hide (fun k => pdq_zero (.slice a 0 c) fv k w)
  go_enter Tryz.func57, Tryz.ntmps57
  go_wp2_with (first | (go_at_call 86; refine K.out.mono ?_; rintro e w' ⟨⟨k, rfl⟩, rfl⟩) | (go_at_call 85; refine (K2.out k).mono ?_; rintro e w' ⟨rfl, rfl⟩) | fail)
  go_end0
  exact ⟨rfl, rfl⟩
end
open Go.RowKit Go.Sort Go.Shelf

def rcel (r : Rs) : List Value := [I r.lv, .string r.lb, I r.id]
def rc (rs : List Rs) : List Value := rs.flatMap rcel
theorem rc_len (rs : List Rs) : (rc rs).length = rs.length * 3 := by
  induction rs with
  | nil => rfl
  | cons r rs ih => simp only [rc, List.flatMap_cons, List.length_append, List.length_cons] at *; rw [ih]; simp [rcel]; omega
theorem rc_snoc (rs : List Rs) (r : Rs) : rc (rs ++ [r]) = rc rs ++ rcel r := by simp [rc]
theorem rc_at : ∀ (rs : List Rs) (i : Nat) (r : Rs), rs[i]? = some r → ∀ d v, (rcel r)[d]? = some v → (rc rs)[i * 3 + d]? = some v
  | [], _, _, h, _, _, _ => by simp at h
  | r0 :: rs, 0, r, h, d, v, hv => by
    simp at h; subst h
    have hd : d < (rcel r0).length := (List.getElem?_eq_some_iff.1 hv).1
    show (rcel r0 ++ rc rs)[0 * 3 + d]? = some v
    rw [Nat.zero_mul, Nat.zero_add, List.getElem?_append_left hd]
    exact hv
  | r0 :: rs, i + 1, r, h, d, v, hv => by
    have h2 := rc_at rs i r (by simpa using h) d v hv
    show (rcel r0 ++ rc rs)[(i + 1) * 3 + d]? = some v
    rw [List.getElem?_append_right (by simp [rcel]; omega), show (i + 1) * 3 + d - (rcel r0).length = i * 3 + d by simp [rcel]; omega]
    exact h2
theorem rc_get [Inhabited Rs] (rs : List Rs) (j : Nat) (hj : j < rs.length * 3) : (rc rs)[j]? = some ((rcel rs.toArray[j / 3]!)[j % 3]!) := by
  have hi : j / 3 < rs.length := by omega
  have hm : j % 3 < 3 := Nat.mod_lt _ (by decide)
  have e1 : rs.toArray[j / 3]! = rs[j / 3] := by simp [hi]
  have h := rc_at rs (j / 3) rs[j / 3] (List.getElem?_eq_getElem hi) (j % 3) ((rcel rs[j / 3])[j % 3]!) (by
    rw [getElem!_pos _ _ (by simpa [rcel] using hm), List.getElem?_eq_getElem (by simpa [rcel] using hm)])
  rw [show j / 3 * 3 + j % 3 = j by omega] at h
  rw [e1]; exact h
theorem flat_rc [Inhabited Rs] (rs : List Rs) : (flatK rcel 3 rs.toArray).toList = rc rs := by
  apply List.ext_getElem?
  intro j
  by_cases hj : j < rs.length * 3
  · have hs : j < (flatK rcel 3 rs.toArray).size := by simpa using hj
    rw [rc_get rs j hj, Array.getElem?_toList, Array.getElem?_eq_getElem hs, ← get_flatK rcel 3 rs.toArray j (by simpa using hj), getElem!_pos _ j hs]
  · rw [List.getElem?_eq_none (by simp; omega), List.getElem?_eq_none (by rw [rc_len]; omega)]
theorem take_put (F cur : Array Value) (h : F.size ≤ cur.size) : (putCells id 0 F cur).toList.take F.size = F.toList := by
  apply List.ext_getElem?
  intro j
  by_cases hj : j < F.size
  · rw [List.getElem?_take_of_lt hj, Array.getElem?_toList]
    simp [putCells, hj, show j < cur.size by omega]
  · rw [List.getElem?_take_eq_none (by omega), List.getElem?_eq_none (by simp; omega)]
set_option maxRecDepth 100000 in
set_option maxHeartbeats 400000 in
theorem sort_res (w : World) (lo : Nat) (v : Value) (rs : List Rs) (h : w.ownsRow lo 24 3 v rs.length (rc rs)) (hl : rs.length < 4611686018427387904) :
    Calls Tryz.prog 57 #[v, .func (.func 58) #[] #[]] w fun e w' => e = .returned (.tuple #[]) ∧ ∃ rs' : List Rs, rs'.Perm rs ∧ rs'.Pairwise (fun a b => ¬ rLt b a) ∧ w'.ownsRow lo 24 3 v rs.length (rc rs') ∧ Chg (fun k => v.ownBlock = some k) w w' := by
  rcases h.2 with ⟨rfl, h0⟩ | ⟨g, cap, cur, rfl, hlo, hg, hc, hm, hs, ht⟩
  · have hz : rs = [] := List.eq_nil_of_length_eq_zero h0
    subst hz
    refine (sortF_zero none 0 _ w).mono ?_
    rintro e w' ⟨rfl, rfl⟩
    exact ⟨rfl, [], .refl _, .nil, h, Chg.refl _ _⟩
  · letI : Inhabited Rs := ⟨⟨0, ByteArray.empty, 0⟩⟩
    have hgl : g < w.heap.size := (Array.getElem?_eq_some_iff.1 hg).1
    have hH : HoldsK rcel 3 w g 0 rs.toArray := fun j hj => by
      have hj' : j < rs.length * 3 := by simpa using hj
      refine ⟨?_, by simp [World.frozen?, hg]⟩
      have h1 : (cur.toList.take (rs.length * 3))[j]? = (rc rs)[j]? := by rw [ht]
      rw [List.getElem?_take_of_lt hj', rc_get rs j hj'] at h1
      simp only [World.cell?, hg, Nat.zero_add]
      simp only [Option.isSome_none, Bool.false_eq_true, if_false]
      rw [← Array.getElem?_toList, h1, get_flatK rcel 3 rs.toArray j (by simpa using hj')]
      rfl
    have hC : CmpLays Tryz.prog 58 #[] rcel 3 io g 0 rs.toArray.size w := fun m os dk _ x y => by
      show Calls Tryz.prog 58 #[.agg (rcel x).toArray, .agg (rcel y).toArray] _ _
      exact in_order x y _
    refine (AnyQ.slices_SortFunc Tryz.sortRes 3 Tryz.isAgg24 Tryz.sizeOf24 rcel (fun _ => rfl) (fun r u hu => by simp [rcel] at hu; rcases hu with rfl | rfl | rfl <;> rfl) io io_swo 58 #[] g 0 cap rs.toArray w (enters_of Tryz.func58 (by kernel_rfl) rfl) hC hH hgl (by simpa using hl)).mono ?_
    rintro e w' ⟨rfl, d', n, os, hp, hsd, rfl⟩
    obtain ⟨hsz, -, hpm⟩ := hp
    have hn : rs.toArray.size = rs.length := by simp
    have hpm2 : d'.toList.Perm rs := by
      have e1 : d'.extract 0 rs.toArray.size = d' := by rw [← hsz]; simp
      rw [e1] at hpm
      simpa using hpm
    have hdl : d'.toList.length = rs.length := by simpa using hsz
    refine ⟨rfl, d'.toList, hpm2, ?_, ?_, ?_⟩
    · rw [List.pairwise_iff_getElem]
      intro i j hi hj hij hlt
      have := hsd i j (Nat.zero_le _) hij (by rw [hn, ← hdl]; exact hj)
      have h3 := of_decide_eq_false this
      rw [getElem!_pos d' j (by simpa using hj), getElem!_pos d' i (by simpa using hi)] at h3
      exact h3 ((io_lt _ _).2 (by simpa using hlt))
    · have hF : (flatK rcel 3 d').toList = rc d'.toList := by
        have := flat_rc d'.toList
        rwa [Array.toArray_toList] at this
      have hFs : (flatK rcel 3 d').size = rs.length * 3 := by rw [size_flatK, hsz, hn]
      refine ⟨by rw [rc_len, hdl], .inr ⟨g, cap, putCells id 0 (flatK rcel 3 d') cur, rfl, hlo, ?_, hc, hm, by simp [putCells, hs], ?_⟩⟩
      · show (grow (putRow id (Sort.ahead w n) g 0 (flatK rcel 3 d')) os).heap[g]? = _
        rw [heap_grow_old _ _ (by simpa using hgl)]
        simp [putRow, mapBlock, Sort.ahead, Array.getElem?_modify, hg, onCells]
      · rw [← hFs, take_put _ _ (by rw [hFs, hs]; omega)]
        exact hF
    · show Chg (fun k => (Value.slice (some ⟨g, 0, none⟩) rs.length cap).ownBlock = some k) w (grow (putRow id (Sort.ahead w n) g 0 (flatK rcel 3 d')) os)
      refine ⟨rfl, rfl, rfl, by simp, fun k hk hne => ?_⟩
      rw [heap_grow_old _ _ (by simpa using hk)]
      have : g ≠ k := fun e => hne (by rw [e]; rfl)
      simp [putRow, mapBlock, Sort.ahead, Array.getElem?_modify, this]
end
open Go.RowKit

theorem app_res2 (w7 : World) (lo : Nat) (u : Value) (rs : List Rs) (r : Rs) (hu : w7.ownsRow lo 24 3 u rs.length (rc rs)) (hl : rs.length < 4100000000000) (hlo : lo ≤ w7.heap.size) :
    ∃ v' w9, (Builtin.append_ #[29, 29] 29 #[u, .slice (some ⟨w7.heap.size, 0, none⟩) 1 1]).run Tryz.prog (w7.alloc (.cells #[I r.lv, .string r.lb, I r.id] 24)) = .ok v' w9 ∧ w9.ownsRow lo 24 3 v' (rs ++ [r]).length (rc (rs ++ [r])) ∧ (w7.alloc (.cells #[I r.lv, .string r.lb, I r.id] 24)).grownBy w9 u.ownBlock := by
  obtain ⟨i0, hi, hz0, hz1, hz2⟩ := info_parts (show (Tryz.prog.info? 24).map (fun i => (i.zero, i.size, i.bytes)) = some (some (.agg #[.int .i64 0, .string ByteArray.empty, .int .i64 0]), 3, 32) from by kernel_rfl)
  have hmx : (4100000000001 : Nat) ≤ maxLen := of_decide_eq_true (by kernel_rfl)
  have gA : G w7 (w7.alloc (.cells #[I r.lv, .string r.lb, I r.id] 24)) := (G.refl w7).alloc _
  have hb := (Blk.new w7 (rcel r) 24)
  have hu2 : (w7.alloc (.cells #[I r.lv, .string r.lb, I r.id] 24)).ownsRow lo 24 3 u rs.length (rc rs) := own_G hu gA
  obtain ⟨v', w9, q1, q2, q3, -, -⟩ := run_append_own_at (P := Tryz.prog) (w := w7.alloc (.cells #[I r.lv, .string r.lb, I r.id] 24)) lo 29 29 24 i0 _ 3 32 Tryz.underlying29 hi hz0 hz1 hz2 rfl (by decide) u _ _ hu2 ⟨w7.heap.size, 0, none⟩ 1 1 (rcel r) (by simp [rcel]) (fun j u hj => by
    have := hb.cell j
    rw [hj] at this
    rw [Addr.add_mid, Nat.zero_add]; exact this) (fun u hu => by simp [rcel] at hu; rcases hu with rfl | rfl | rfl <;> rfl) (by omega) (by omega) (Nat.le_trans hlo gA.size)
  refine ⟨v', w9, q1, ?_, q3⟩
  rw [rc_snoc, List.length_append]
  exact q2
theorem grown_G {a w w' : World} {o : Option Nat} (h : G a w) (k : w.grownBy w' o) (hn : ∀ b, o = some b → a.heap.size ≤ b) : G a w' :=
  ⟨k.os.trans h.os, k.tape.trans h.tape, k.output.trans h.output, Nat.le_trans h.size k.size, fun j hj => (k.block j (Nat.lt_of_lt_of_le hj h.size) (fun e => by have := hn j e.symm; omega)).trans (h.block j hj)⟩
theorem own_iter {w : World} {lo e k n r : Nat} {v : Value} {xs : List Value} (h : w.ownsRow lo e k v n xs) (hr : ∃ m s se c, w.heap[r]? = some (.mapIter m s se c)) : ¬ v.ownBlock = some r := fun e => by
  obtain ⟨m, s, se, c, hr⟩ := hr
  rcases h.2 with ⟨rfl, -⟩ | ⟨g, cap, cur, rfl, -, hg, -⟩
  · cases e
  · have e3 : g = r := by simpa [Value.ownBlock] using e
    rw [e3, hr] at hg
    cases hg
theorem own_map {w : World} {lo e k n b : Nat} {v : Value} {xs : List Value} (h : w.ownsRow lo e k v n xs) (hb : b < lo) : ¬ v.ownBlock = some b := fun e => by
  have := (World.ownsRow.lt h b e).1
  omega
theorem pl_fin {w w8 w' : World} {u : Value} {rs rs2 : List Rs} {p : Pt} {e : Ending} (he : e = .returned u) (hg : G w w8) (hp : rs2.Perm rs) (hs : rs2.Pairwise (fun a b => ¬ rLt b a)) (hr : w'.ownsRow w.heap.size 24 3 u rs.length (rc rs2)) (hc : Chg (fun k => u.ownBlock = some k) w8 w') (hn : rs.Nodup) (hm : ∀ r, r ∈ rs ↔ p.hf r ≠ 0 ∨ (p.goal ≠ 0 ∧ r = p.at_)) :
    ∃ (v : Value) (rs : List Rs), e = .returned v ∧ w'.ownsRow w.heap.size 24 3 v rs.length (rc rs) ∧ rs.Nodup ∧ (∀ r, r ∈ rs ↔ p.hf r ≠ 0 ∨ (p.goal ≠ 0 ∧ r = p.at_)) ∧ rs.Pairwise rLt ∧ G w w' := by
  have hn2 : rs2.Nodup := hp.nodup_iff.2 hn
  refine ⟨u, rs2, he, by rw [hp.length_eq]; exact hr, hn2, fun r => (hp.mem_iff).trans (hm r), ?_, hg.andc hc (fun b hb => (World.ownsRow.lt hr b hb).1)⟩
  exact (hs.and hn2).imp (fun h => (rLt_tot _ _).elim id (fun g => g.elim (fun g => absurd g h.2) (fun g => absurd g h.1)))
set_option maxRecDepth 100000 in
set_option maxHeartbeats 1000000 in
theorem places_any (p : Pt) (w : World) (hb : Blk w p.blk 67 p.cells) (hm : Mp Rs.v 24 w p.hb (fun r => nz (p.hf r))) (L : List Rs) (hL : ∀ r, p.hf r ≠ 0 → r ∈ L ∧ r.ok) (hl : L.length < 4099999999999) (hat : p.at_.ok) :
    Calls Tryz.prog 35 #[ptr p.blk] w fun e w' => ∃ (v : Value) (rs : List Rs), e = .returned v ∧ w'.ownsRow w.heap.size 24 3 v rs.length (rc rs) ∧ rs.Nodup ∧ (∀ r, r ∈ rs ↔ p.hf r ≠ 0 ∨ (p.goal ≠ 0 ∧ r = p.at_)) ∧ rs.Pairwise rLt ∧ G w w' := by
  obtain ⟨w0, cnt0, hrun0, hrg0, hg0, hs0⟩ := hm.range kyR Tryz.underlying64
  have hc := hb.cell
  simp only [Pt.cells] at hc
  have HB := hide hb; have HM := hide hm; have HRG := hide hrg0; have HG0 := hide hg0; have HS0 := hide hs0; have HL := hide hL; have HLL := hide hl; have HAT := hide hat
  clear hb hm hrg0 hg0 hs0 hL hl hat
  go_enter Tryz.func35, Tryz.ntmps35
  go_wp2
  go_loopw [3, 4] (fun u _ wr => ∃ (left : Rs → Prop) (cnt : Nat) (rs : List Rs), Rg Rs.v 24 wr p.hb w.heap.size (fun r => nz (p.hf r)) left cnt ∧ G w wr ∧ w.heap.size < wr.heap.size ∧ rs.Nodup ∧ (∀ a, a ∈ rs ↔ p.hf a ≠ 0 ∧ ¬ left a) ∧ (∀ a, left a → p.hf a ≠ 0) ∧ wr.ownsRow w.heap.size 24 3 u rs.length (rc rs)) (fun _ _ wr => wr.rangeLeft p.hb w.heap.size)
  case atStart =>
    exact ⟨_, _, [], HRG.out, HG0.out, by rw [HS0.out]; omega, List.nodup_nil, fun a => ⟨fun h => (List.not_mem_nil h).elim, fun h => absurd (show nz (p.hf a) ≠ none by simp [nz, h.1]) h.2⟩, fun a ha e => ha (by simp [nz, e]), ⟨rfl, .inl ⟨rfl, rfl⟩⟩⟩
  case round =>
    obtain ⟨left, cnt, rs, hrg, hgw, hszw, hnd, hmem, hlf, hrow⟩ := hrel
    have HR := hide hrg
    have HGW := hide hgw
    have HSZW := hide hszw
    have HND := hide hnd
    have HMEM := hide hmem
    have HLF := hide hlf
    have HROW := hide hrow
    have HLEN : Hid (rs.length ≤ L.length) := by
      have hs : ∀ a ∈ rs, a ∈ L := fun a ha => (HL.out a ((hmem a).1 ha).1).1
      exact nodup_len rs L hnd hs
    rcases hrg.next kyR 0 with ⟨hno, hnx⟩ | ⟨y, v, w1, cnt1, hky, hly, hgy, hnx, hrg1, hlt, hch, hsz, hen⟩
    · have HNO := hide hno
      have hall : ∀ a, a ∈ rs ↔ p.hf a ≠ 0 := fun a => ⟨fun h => ((hmem a).1 h).1, fun h => (hmem a).2 ⟨h, hno a (kyR_ok.2 (HL.out a h).2)⟩⟩
      have HALL := hide hall
      have hc1 := (HB.out.G hgw).cell
      simp only [Pt.cells] at hc1
      have hlk := (HM.out.G hgw).lookN kyR Tryz.underlying64 Tryz.zeroValue3 (kyR_ok.2 HAT.out)
      simp only [nz_get, Rs.v] at hlk
      clear hrg hgw hno hc hrow hszw hall hnd hmem hlf
      obtain ⟨N2, hN2⟩ : ∃ N2, N2 = (4100000000000 : Nat) := ⟨_, rfl⟩
      have hsz2 : rs.length + 1 < N2 := by have h1 := HLEN.out; have h2 := HLL.out; omega
      have HNN := hide hN2
      have HSZ2 := hide hsz2
      clear hN2 hsz2
      by_cases hgo : p.goal = 0
      · simp only [hgo] at hc1
        have HGO := hide hgo
        clear hgo hlk
        go_wp2
        go_quiet (fail)
        have HV := hide ((G.refl wr).drewN nq)
        generalize wr.drewN nq = V at HV ⊢
        have KS := hide (sort_res V w.heap.size u3 rs (own_G HROW.out HV.out) (by have := HSZ2.out; have := HNN.out; omega))
        go_wp2_with (first | (go_at_call 57; with_reducible refine (KS.out).mono ?_; rintro e w' ⟨rfl, rs2, hp2, hs2, hr2, hc2⟩) | fail)
        go_ret
        exact pl_fin rfl (HGW.out.trans HV.out) hp2 hs2 hr2 hc2 HND.out (fun r => by rw [HALL.out]; exact ⟨.inl, fun h => h.elim id (fun h => absurd HGO.out h.1)⟩)
      · have hgb : (p.goal != 0) = true := by simpa using hgo
        by_cases hha : p.hf p.at_ = 0
        · have hhb : (p.hf p.at_ == 0) = true := by simp [hha]
          have HGO := hide hgo
          have HHA := hide hha
          rw [hha] at hlk
          clear hgo hha
          go_wp2
          go_quiet (fail)
          have HV := hide ((G.refl wr).drewN nq)
          have hcV := (HB.out.G (HGW.out.trans HV.out)).cell
          simp only [Pt.cells] at hcV
          generalize wr.drewN nq = V at HV hcV ⊢
          have hrowV := own_G HROW.out HV.out
          have hzV := (HGW.out.trans HV.out).size
          obtain ⟨v9, w9, r1, r2, r3⟩ := app_res2 V w.heap.size u3 rs p.at_ hrowV (by have := HSZ2.out; have := HNN.out; omega) hzV
          have g9 : G w w9 := grown_G ((HGW.out.trans HV.out).alloc _) r3 (fun b hb => (World.ownsRow.lt hrowV b hb).1)
          have HR1 := hide r1
          have HG9 := hide g9
          have KS := hide (sort_res w9 w.heap.size v9 (rs ++ [p.at_]) r2 (by rw [List.length_append]; have := HSZ2.out; have := HNN.out; simp; omega))
          clear r1 r2 r3 g9 hrowV hzV hc1 hlk hgb hhb
          go_wp2_with (first | (at_builtin; refine wpList_append_run rfl _ _ 29 rfl _ _ rfl rfl HR1.out ?_) | (go_at_call 57; with_reducible refine (KS.out).mono ?_; rintro e w' ⟨rfl, rs2, hp2, hs2, hr2, hc2⟩) | fail)
          go_ret
          refine pl_fin rfl HG9.out hp2 hs2 hr2 hc2 ?_ (fun r => ?_)
          · rw [List.nodup_append]
            refine ⟨HND.out, by simp, fun a ha b hb e => ?_⟩
            simp at hb
            subst hb e
            exact (HALL.out _).1 ha HHA.out
          · rw [List.mem_append, List.mem_singleton, HALL.out]
            exact ⟨fun h => h.elim .inl (fun h => .inr ⟨HGO.out, h⟩), fun h => h.elim .inl (fun h => .inr h.2)⟩
        · have hhb : (p.hf p.at_ == 0) = false := by simpa using hha
          have HHA := hide hha
          clear hgo hha
          go_wp2
          go_quiet (fail)
          have HV := hide ((G.refl wr).drewN nq)
          generalize wr.drewN nq = V at HV ⊢
          have KS := hide (sort_res V w.heap.size u3 rs (own_G HROW.out HV.out) (by have := HSZ2.out; have := HNN.out; omega))
          go_wp2_with (first | (go_at_call 57; with_reducible refine (KS.out).mono ?_; rintro e w' ⟨rfl, rs2, hp2, hs2, hr2, hc2⟩) | fail)
          go_ret
          exact pl_fin rfl (HGW.out.trans HV.out) hp2 hs2 hr2 hc2 HND.out (fun r => by rw [HALL.out]; exact ⟨.inl, fun h => h.elim id (fun h => by rw [h.2]; exact HHA.out)⟩)
    · have g1 : G w w1 := ⟨hch.os.trans hgw.os, hch.tape.trans hgw.tape, hch.output.trans hgw.output, Nat.le_trans hgw.size hch.size, fun j hj => (hch.block j (Nat.lt_of_lt_of_le hj hgw.size) (by omega)).trans (hgw.block j hj)⟩
      have gB : G w1 (w1.alloc (.cells #[I y.lv, .string y.lb, I y.id] 24)) := (G.refl w1).alloc _
      have hit : ∃ m s se c, wr.heap[w.heap.size]? = some (.mapIter m s se c) := hrg.iter
      have hrow1 : w1.ownsRow w.heap.size 24 3 u3 rs.length (rc rs) := own_chg hrow hch (fun b hb e => own_iter hrow hit (by rw [hb, e]))
      have hit1 := hrg1.iter
      have hpb := own_map hrow HM.out.lt
      obtain ⟨v9, w9, r1, r2, r3⟩ := app_res2 (w1.alloc (.cells #[I y.lv, .string y.lb, I y.id] 24)) w.heap.size u3 rs y (own_G hrow1 gB) (by have := HLEN.out; have := HLL.out; omega) (Nat.le_trans g1.size gB.size)
      simp only [World.size_alloc] at r1
      have gC : G w1 ((w1.alloc (.cells #[I y.lv, .string y.lb, I y.id] 24)).alloc (.cells #[I y.lv, .string y.lb, I y.id] 24)) := gB.alloc _
      have hz1 : w.heap.size < w1.heap.size := by omega
      have hlo3 : ∀ b, u3.ownBlock = some b → w.heap.size ≤ b := fun b hb => (World.ownsRow.lt hrow b hb).1
      have g9 : G w w9 := grown_G (g1.trans gC) r3 hlo3
      have hn1 : ¬ u3.ownBlock = some w.heap.size := own_iter hrow hit
      have hp1 : p.hb < w1.heap.size := by
        have := HM.out.lt
        have := g1.size
        omega
      have hrg9 := hrg1.keep ((r3.block _ (Nat.lt_of_lt_of_le hp1 gC.size) (fun e => hpb e.symm)).trans (gC.block _ hp1)) ((r3.block _ (Nat.lt_of_lt_of_le hz1 gC.size) (fun e => hn1 e.symm)).trans (gC.block _ hz1))
      have hbn := (Blk.new w1 [I y.lv, .string y.lb, I y.id] 24).cell
      have hleft := hrg.left_eq
      have HR1 := hide r1; have HR2 := hide r2; have HG9 := hide g9; have HRG9 := hide hrg9; have HLT := hide hlt; have HLEFT := hide hleft; have HLY := hide hly
      have HZ9 : Hid (w.heap.size < w9.heap.size) := by
        have h1 := gC.size
        have h2 := r3.size
        show w.heap.size < w9.heap.size
        omega
      simp only [Rs.v] at hnx hen
      clear r1 r2 r3 g1 gB gC hrg1 hlt hleft hsz hrg hgw hch hky hgy hszw hit hrow1 hit1 hpb hz1 hlo3 g9 hn1 hp1 hrg9 hnd hmem hlf hrow
      go_wp2_with (first | (at_builtin; refine wpList_append_run rfl _ _ 29 rfl _ _ rfl rfl HR1.out ?_) | fail)
      have hre : ∃ (left : Rs → Prop) (cnt : Nat) (rs : List Rs), Rg Rs.v 24 w9 p.hb w.heap.size (fun r => nz (p.hf r)) left cnt ∧ G w w9 ∧ w.heap.size < w9.heap.size ∧ rs.Nodup ∧ (∀ a, a ∈ rs ↔ p.hf a ≠ 0 ∧ ¬ left a) ∧ (∀ a, left a → p.hf a ≠ 0) ∧ w9.ownsRow w.heap.size 24 3 v9 rs.length (rc rs) := by
        refine ⟨_, _, rs ++ [y], HRG9.out, HG9.out, HZ9.out, ?_, fun a => ?_, fun a ha => HLF.out a ha.1, HR2.out⟩
        · rw [List.nodup_append]
          refine ⟨HND.out, by simp, fun a ha b hb e => ?_⟩
          simp at hb
          subst hb e
          exact ((HMEM.out _).1 ha).2 HLY.out
        · rw [List.mem_append, List.mem_singleton]
          constructor
          · rintro (h | rfl)
            · exact ⟨((HMEM.out a).1 h).1, fun hh => ((HMEM.out a).1 h).2 hh.1⟩
            · exact ⟨HLF.out _ HLY.out, fun hh => hh.2 rfl⟩
          · rintro ⟨h1, h2⟩
            by_cases e : a = y
            · exact .inr e
            · exact .inl ((HMEM.out a).2 ⟨h1, fun hl => h2 ⟨hl, e⟩⟩)
      go_roundw
      case rel => exact hre
      case measure =>
        rw [HRG9.out.left_eq, HLEFT.out]
        exact HLT.out
end Go.Proofs.YtkbgifhhnnfgoaaGreatDoor
