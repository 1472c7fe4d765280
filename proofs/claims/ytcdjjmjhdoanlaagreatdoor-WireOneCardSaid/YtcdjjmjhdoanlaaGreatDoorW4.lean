/- Wire: the laws' own small functions over bytes. -/
import Derived.Test.YtcdjjmjhdoanlaaGreatDoorW3
import Derived.BigQuiet
import Derived.Deep.QuietTactic
namespace Go.Proofs.YtcdjjmjhdoanlaaGreatDoor
open Go.RowKit

theorem Row.pre {α : Type} {R : Rel α} {w : World} {p : Option Addr} {n cap : Nat} {l : List α} (h : Row R w (.slice p n cap) l) (m : Nat) (hl : m ≤ l.length) : Row R w (.slice p m cap) (l.take m) := by
  obtain ⟨p', c, e, hc, hn, hr⟩ := h
  cases e
  have hll : (l.take m).length = m := by simp; omega
  refine ⟨p, cap, by rw [hll], by rw [hll]; omega, hn, fun i x hx => ?_⟩
  rw [List.getElem?_take] at hx
  split at hx
  · exact hr i x hx
  · cases hx
theorem Row.cap {α : Type} {R : Rel α} {w : World} {p : Option Addr} {n cap : Nat} {l : List α} (h : Row R w (.slice p n cap) l) : l.length ≤ cap ∧ n = l.length := by
  obtain ⟨p', c, e, hc, _⟩ := h
  cases e
  exact ⟨hc, rfl⟩
set_option maxRecDepth 100000 in
set_option maxHeartbeats 1000000 in
theorem copy_any (b : List Nat) (v : Value) (W : World) (h : Rb W v b) (hn : b.length ≤ 140737488351232) :
    Calls Tryz.prog 8 #[v] W fun e W' => ∃ v', e = .returned v' ∧ SwB W' v' b ∧ G W W' ∧ Fresh W v' := by
  obtain ⟨p, cap, rfl⟩ := h.form
  obtain ⟨w1, hmk, hs1, hg1, hf1⟩ := mk_B W (b.length + 8) ((b.length : Int) + 8) (by omega) (by omega)
  obtain ⟨v2, w2, hr2, hs2, hg2, hf2⟩ := grow_B 23 hs1 (h.G hg1) hg1 hf1 (by simp; omega)
  have HMK := hide hmk
  have HR2 := hide hr2
  have HF : Hid (∃ u, v2 = u ∧ SwB w2 u b ∧ G W w2 ∧ Fresh W u) := ⟨_, rfl, hs2, hg2, hf2⟩
  have e1 : wrap64 ((b.length : Int) + 8) = (b.length : Int) + 8 := by unfold wrap64; omega
  clear h hmk hs1 hg1 hf1 hr2 hs2 hg2 hf2 hn
  go_enter Tryz.func8, Tryz.ntmps8
  go_wp2_with fail
  rw [HMK.out]
  go_wp2_with (first | (at_builtin; refine wpList_append_run rfl _ _ 23 rfl (.slice (some ⟨W.heap.size, 0, none⟩) 0 (b.length + 8)) (.slice p b.length cap) rfl rfl HR2.out ?_) | fail)
  go_ret
  obtain ⟨u, rfl, r1, r2, r3⟩ := HF.out
  exact ⟨_, rfl, r1, r2, r3⟩
/-- The marks behind. -/
def mks : List Nat := [200, 201, 202, 203, 204, 205, 206, 207]
set_option maxRecDepth 100000 in
set_option maxHeartbeats 1000000 in
theorem bytes_any (l : List Nat) (a b : Value) (W : World) (h : Rb W a l) (k : Rb W b l) (hn : l.length ≤ 140737488355328) :
    Calls Tryz.prog 11 #[a, b] W fun e W' => e = .returned (.bool true) ∧ G W W' := by
  obtain ⟨p, cap, rfl⟩ := h.form
  obtain ⟨p', cap', rfl⟩ := k.form
  have HS := hide h
  have HS2 := hide k
  have HN := hide hn
  clear h k hn
  go_enter Tryz.func11, Tryz.ntmps11
  go_wp2_with fail
  go_loopw [5] (fun iv wr => ∃ i : Nat, iv = I i ∧ i ≤ l.length ∧ G W wr) (fun iv _ => l.length - (RowKit.intOf iv).toNat)
  case atStart => exact ⟨0, rfl, Nat.zero_le _, G.refl _⟩
  case round =>
    obtain ⟨i, rfl, hi, hg⟩ := hrel
    by_cases hil : i < l.length
    · obtain ⟨x, hx⟩ : ∃ x, l[i]? = some x := ⟨_, List.getElem?_eq_getElem hil⟩
      obtain ⟨g, o, c, q⟩ := HS.out.addr (by omega)
      obtain ⟨g', o', c', q'⟩ := HS2.out.addr (by omega)
      injection q with q1 q2 q3
      injection q' with q1' q2' q3'
      subst q1 q1' q3 q3'
      have x1 := Rb.at (HS.out.G hg) hx
      have x2 := Rb.at (HS2.out.G hg) hx
      have i1 : (i : Int) < l.length := Int.ofNat_lt.2 hil
      have HW : Hid (wrap64 ((i : Int) + 1) = (i : Int) + 1) := by show _ = _; have := HN.out; unfold wrap64; omega
      have HIL := hide hil
      have HG := hide hg
      clear hi hil hx hg q2 q2'
      go_wp2_with fail
      go_quiet (fail)
      go_wp2_with fail
      try rw [HW.out]
      refine ⟨⟨i + 1, rfl, HIL.out, HG.out.drewN _⟩, ?_⟩
      simp only [RowKit.intOf]; have := HIL.out; omega
    · have i1 : ¬ ((i : Int) < l.length) := by omega
      have HG := hide hg
      clear hi hil hg
      go_wp2_with fail
      go_ret
      exact ⟨rfl, HG.out⟩
end Go.Proofs.YtcdjjmjhdoanlaaGreatDoor
