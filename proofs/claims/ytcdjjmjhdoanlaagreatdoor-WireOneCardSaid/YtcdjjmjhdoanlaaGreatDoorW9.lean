/- Wire: lists. -/
import Derived.Test.YtcdjjmjhdoanlaaGreatDoorW8
namespace Go.Proofs.YtcdjjmjhdoanlaaGreatDoor
open Go.RowKit

theorem cat_assoc (a b c : Option (List Nat)) : cat (cat a b) c = cat a (cat b c) := by
  cases a <;> cases b <;> cases c <;> simp [cat]
theorem cat_nil (a : Option (List Nat)) : cat a (some []) = a := by cases a <;> simp [cat]
theorem nil_cat (a : Option (List Nat)) : cat (some []) a = a := by cases a <;> simp [cat]
/-- A list's elements, one behind the other. -/
def catL {α : Type} (f : α → Option (List Nat)) : List α → Option (List Nat)
  | [] => some []
  | x :: r => cat (f x) (catL f r)
theorem catL_app {α : Type} (f : α → Option (List Nat)) : ∀ a b : List α, catL f (a ++ b) = cat (catL f a) (catL f b)
  | [], b => (nil_cat _).symm
  | x :: a, b => by
    show cat (f x) (catL f (a ++ b)) = cat (cat (f x) (catL f a)) (catL f b)
    rw [catL_app f a b, cat_assoc]
theorem catL_snoc {α : Type} (f : α → Option (List Nat)) (l : List α) (i : Nat) (x : α) (h : l[i]? = some x) : catL f (l.take (i + 1)) = cat (catL f (l.take i)) (f x) := by
  rw [List.take_add_one, h, catL_app]
  show cat _ (cat (f x) (some [])) = _
  rw [cat_nil]
theorem wap_rest {α : Type} (s : Option (List Nat)) (f : α → Option (List Nat)) (a : List Nat) (l : List α) (i : Nat) : wap s (cat (some a) (catL f l)) = wap (wap s (cat (some a) (catL f (l.take i)))) (catL f (l.drop i)) := by
  rw [wap_cat, cat_assoc, ← catL_app, List.take_append_drop]
/-- Whole numbers of 64 bits in a row. -/
abbrev eI : Enc Int := ⟨fun x => [I x], 1, fun _ => rfl, fun _ u hu => by simp at hu; subst hu; rfl⟩
def numF (n : Int) : Option (List Nat) := some (cnt (zig n))
theorem RI.at {W : World} {g o n cap : Nat} {l : List Int} (h : Row eI.rel W (.slice (some ⟨g, o, none⟩) n cap) l) {i : Nat} {x : Int} (hx : l[i]? = some x) : W.cell? ⟨g, o + i, none⟩ = some (I x) := by
  have := h.one hx 0 rfl
  simpa using this
set_option maxRecDepth 100000 in
set_option maxHeartbeats 1000000 in
theorem putI_any (W0 B w : World) (b : Nat) (s : Option (List Nat)) (v : Value) (l : List (Int)) (h : Wst W0 B w b s) (hv : Row eI.rel W0 v l) (hq : ∀ x ∈ l, R64 x) (hn : l.length ≤ 140737488351232) :
    Calls Tryz.prog 48 #[ptr b, v, .func (.func 49) #[] #[]] w fun e w' => e = .returned (.tuple #[]) ∧ Wst W0 B w' b (wap s (cat (some (cnt l.length)) (catL numF l))) := by
  obtain ⟨p, cap, rfl⟩ := hv.form
  have KC := hide (count_any W0 B w b s l.length h (by omega))
  have HS := hide hv
  have HQ := hide hq
  have HN := hide hn
  clear h hv hq
  go_enter Tryz.func48, Tryz.ntmps48
  go_wp2_with fail
  refine KC.out.mono ?_
  rintro e w1 ⟨rfl, h1⟩
  have H1 := hide h1
  clear h1 KC
  go_wp2_with fail
  go_loopw [15] (fun iv wr => ∃ i : Nat, iv = I i ∧ i ≤ l.length ∧ Wst W0 B wr b (wap s (cat (some (cnt l.length)) (catL numF (l.take i))))) (fun iv _ => l.length - (RowKit.intOf iv).toNat)
  case atStart => exact ⟨0, rfl, Nat.zero_le _, by rw [List.take_zero, catL, cat_nil]; exact H1.out⟩
  case round =>
    obtain ⟨i, rfl, hik, hw⟩ := hrel
    clear H1
    by_cases hil : i < l.length
    · obtain ⟨x, hx⟩ : ∃ x, l[i]? = some x := ⟨_, List.getElem?_eq_getElem hil⟩
      obtain ⟨g, o, cap', q⟩ := HS.out.addr (by omega)
      injection q with q1 q2 q3
      subst q1 q3
      have hrow := HS.out.G hw.g
      have hxq := HQ.out x (List.mem_of_getElem? hx)
      have x1 := RI.at hrow hx
      have i1 : (i : Int) < l.length := Int.ofNat_lt.2 hil
      have HW : Hid (wrap64 ((i : Int) + 1) = (i : Int) + 1) := by show _ = _; have := HN.out; unfold wrap64; omega
      have HIL := hide hil
      have e1 : catL numF (l.take (i + 1)) = cat (catL numF (l.take i)) (numF x) := catL_snoc numF l i x hx
      obtain ⟨s1, hs1⟩ : ∃ s1, s1 = wap s (cat (some (cnt l.length)) (catL numF (l.take i))) := ⟨_, rfl⟩
      rw [← hs1] at hw
      cases s1 with
      | none =>
        obtain ⟨l1, hw1⟩ := hw
        obtain ⟨_, _, _, ⟨v1, hB, _, _⟩, _⟩ := id hw1
        have hc := hB.cell
        have HF : Hid (Wst W0 B wr b (wap s (cat (some (cnt l.length)) (catL numF l)))) := by
          show Wst _ _ _ _ _
          rw [wap_rest s numF (cnt l.length) l i, ← hs1]
          exact ⟨l1, hw1⟩
        clear hw1 hB hik hil hx q2 e1 hs1 hxq hrow
        go_wp2_with fail
        exact ⟨rfl, _, results_none rfl _ _ _, rfl, HF.out⟩
      | some l1 =>
        obtain ⟨_, _, _, ⟨v1, hB, _, _⟩, _⟩ := id hw
        have hc := hB.cell
        have KP := hide (number_any W0 B wr b (some l1) x hw hxq)
        have HE : Hid (wap s (cat (some (cnt l.length)) (catL numF (l.take (i + 1)))) = wap (some l1) (numF x)) := by show _ = _; rw [e1, hs1, wap_cat, cat_assoc]
        clear hw hB hik hil hx q2 e1 hs1 hxq hrow
        go_wp2_with fail
        refine KP.out.mono ?_
        rintro e w3 ⟨rfl, hw3⟩
        have hw4 : Wst W0 B w3 b (wap (some l1) (numF x)) := hw3
        rw [← HE.out] at hw4
        have HW3 := hide hw4
        clear hw3 hw4 KP
        go_wp2_with fail
        try rw [HW.out]
        refine ⟨⟨i + 1, rfl, HIL.out, HW3.out⟩, ?_⟩
        simp only [RowKit.intOf]; have := HIL.out; omega
    · have i1 : ¬ ((i : Int) < l.length) := by omega
      have e1 : l.take i = l := List.take_of_length_le (by omega)
      rw [e1] at hw
      have HW := hide hw
      clear hik hil hw e1
      go_wp2_with fail
      exact ⟨rfl, _, results_none rfl _ _ _, rfl, HW.out⟩
end Go.Proofs.YtcdjjmjhdoanlaaGreatDoor
