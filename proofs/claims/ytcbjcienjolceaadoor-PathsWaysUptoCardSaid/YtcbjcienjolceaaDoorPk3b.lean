/- Paths: what is left in sight. -/
import Derived.Test.YtcbjcienjolceaaDoorPk3
namespace Go.Proofs.YtcbjcienjolceaaDoor
open Go.RowKit

theorem nm1 {c k n : Nat} (h : n ≤ c) (hk : k < n) : ¬ ((c : Int) < k) := by omega
theorem nm2 {k n : Nat} (hk : k < n) : ¬ ((n : Int) < k + 1) := by omega
theorem nm3 {k n : Nat} (hk : k < n) (hn : n ≤ 68719476736) : wrap64 ((k : Int) + 1) = (k : Int) + 1 := by unfold wrap64; omega
theorem nm4 (k : Nat) : ¬ ((k : Int) < 0) := by omega
theorem nm5 {k n : Nat} (hk : k < n) : (k : Int) < n := by omega
theorem nm6 {n a b : Nat} (h1 : n ≤ a * 1048576 + b) (h2 : a < 4096) (h3 : b ≤ 1048576) : n ≤ 8589934592 ∧ n ≤ 68719476736 := by omega
theorem flS_one (l : List Sn) : ∀ u ∈ flS l, u.oneCell' = true := fun u hu => by
  obtain ⟨z, _, hz⟩ := List.mem_flatMap.1 hu
  simp at hz
  rcases hz with rfl | rfl <;> rfl
set_option maxRecDepth 100000 in
theorem rest_any {W w3 : World} {b3 b5 b6 b7 b9 : Nat} {rv : Value} {tail aimB : Bool} {to_ most : Int} {hops : Bool} {sv av : Value} {st near1 : List Sn} {asked : List Int} {x : Sn} {g cap : Nat} (k : RS W w3 b3 b5 b6 b7 b9 rv tail aimB to_ most hops sv av (.slice (some ⟨g, 0, none⟩) near1.length cap) st near1 asked x) (kx : Nat) (hk : kx < near1.length) (hl : near1.length ≤ 8589934592) :
    ∃ v4a v4c w4 v5a v5c w5, (Builtin.append_ #[84, 84] 84 #[.slice none 0 0, .slice (some ⟨g, 0, none⟩) kx cap]).run Tryd.prog w3 = .ok (.slice v4a kx v4c) w4 ∧
      (cap = kx + 1 → (Builtin.append_ #[84, 84] 84 #[.slice v4a kx v4c, .slice (some ⟨g, 0, none⟩) (near1.length - (kx + 1)) 0]).run Tryd.prog w4 = .ok (.slice v5a (kx + (near1.length - (kx + 1))) v5c) w5) ∧
      (cap ≠ kx + 1 → (Builtin.append_ #[84, 84] 84 #[.slice v4a kx v4c, .slice (some ⟨g, (kx + 1) * 2, none⟩) (near1.length - (kx + 1)) (cap - (kx + 1))]).run Tryd.prog w4 = .ok (.slice v5a (kx + (near1.length - (kx + 1))) v5c) w5) ∧
      RS W w5 b3 b5 b6 b7 b9 rv tail aimB to_ most hops sv av (.slice v5a (kx + (near1.length - (kx + 1))) v5c) st (near1.eraseIdx kx) asked x := by
  obtain ⟨gg, cc, rest, hge, -, hblk3, -⟩ := k.n.blk (by omega)
  obtain ⟨rfl, rfl⟩ : g = gg ∧ cap = cc := by simp at hge; exact hge
  have hcap := Rw.cap k.n
  obtain ⟨v4, w4, o1, o2, o3, -⟩ := app_Sn w3 w3.heap.size (.slice none 0 0) 0 [] (Rw.nil _ _ _ _) ⟨g, 0, none⟩ kx cap (flS (near1.take kx)) (by rw [flS_len, List.length_take, Nat.min_eq_left (by omega)]) (fun j u hj => by
    rw [Addr.add_mid, Nat.zero_add, hblk3.cell, List.getElem?_append_left (by have := (List.getElem?_eq_some_iff.1 hj).1; rw [flS_len, List.length_take] at this; rw [flS_len]; omega)]
    have : flS near1 = flS (near1.take kx) ++ flS (near1.drop kx) := by rw [← flS_app, List.take_append_drop]
    rw [this, List.getElem?_append_left (List.getElem?_eq_some_iff.1 hj).1]
    exact hj) (flS_one _) (by omega) (Nat.le_refl _)
  rw [Nat.zero_add, List.nil_append] at o2
  have hg4 : G w3 w4 := (o3.mono (F' := fun _ => False) (fun i q => by simp [Value.ownBlock] at q)).G (fun _ q => q.elim)
  obtain ⟨v4a, v4c, rfl⟩ := Rw.form o2
  have hb4 := hblk3.G hg4
  have hd : flS near1 = flS (near1.take (kx + 1)) ++ flS (near1.drop (kx + 1)) := by rw [← flS_app, List.take_append_drop]
  have hlt : (flS (near1.take (kx + 1))).length = (kx + 1) * 2 := by rw [flS_len, List.length_take, Nat.min_eq_left (by omega)]
  have fin : ∀ (v5 : Value) (w5 : World), Rw w3.heap.size 91 2 w5 v5 (kx + (near1.length - (kx + 1))) (flS (near1.take kx) ++ flS (near1.drop (kx + 1))) → Chg (fun q => (Value.slice v4a kx v4c).ownBlock = some q) w4 w5 → RS W w5 b3 b5 b6 b7 b9 rv tail aimB to_ most hops sv av v5 st (near1.eraseIdx kx) asked x := fun v5 w5 p2 p3 => by
    have hg5 : G w3 w5 := ((hg4.chg (F := fun _ => False)).more p3 (fun i hi e => absurd (o2.own e).1 (by omega))).G (fun _ q => q.elim)
    refine k.sight ?_ hg5.chg (fun b hb => .inr (Rw.own p2 hb).1)
    show Rw _ _ _ _ _ _ _
    rw [List.eraseIdx_eq_take_drop_succ, List.length_append, List.length_take, List.length_drop, Nat.min_eq_left (by omega), flS_app]
    exact p2.base k.g.size
  by_cases hce : cap = kx + 1
  · obtain ⟨v5, w5, p1, p2, p3, -⟩ := app_Sn w4 w3.heap.size (.slice v4a kx v4c) kx (flS (near1.take kx)) o2 ⟨g, 0, none⟩ (near1.length - (kx + 1)) 0 (flS (near1.drop (kx + 1))) (by rw [flS_len, List.length_drop]) (fun j u hj => by
      have h1 := (List.getElem?_eq_some_iff.1 hj).1
      rw [flS_len, List.length_drop] at h1
      omega) (flS_one _) (by omega) hg4.size
    obtain ⟨v5a, v5c, rfl⟩ := Rw.form p2
    exact ⟨v4a, v4c, w4, v5a, v5c, w5, o1, fun _ => p1, fun q => absurd hce q, fin _ _ p2 p3⟩
  · obtain ⟨v5, w5, p1, p2, p3, -⟩ := app_Sn w4 w3.heap.size (.slice v4a kx v4c) kx (flS (near1.take kx)) o2 ⟨g, (kx + 1) * 2, none⟩ (near1.length - (kx + 1)) (cap - (kx + 1)) (flS (near1.drop (kx + 1))) (by rw [flS_len, List.length_drop]) (fun j u hj => by
      have h1 := (List.getElem?_eq_some_iff.1 hj).1
      rw [Addr.add_mid, hb4.cell, List.getElem?_append_left (by rw [hd, List.length_append, hlt]; omega), hd, List.getElem?_append_right (by rw [hlt]; omega), hlt, Nat.add_sub_cancel_left]
      exact hj) (flS_one _) (by omega) hg4.size
    obtain ⟨v5a, v5c, rfl⟩ := Rw.form p2
    exact ⟨v4a, v4c, w4, v5a, v5c, w5, o1, fun q => absurd q hce, fun _ => p1, fin _ _ p2 p3⟩
end Go.Proofs.YtcbjcienjolceaaDoor
