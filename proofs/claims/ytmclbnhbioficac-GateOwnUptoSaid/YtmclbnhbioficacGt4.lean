/- Gate: find, next. -/
import Derived.Test.YtmclbnhbioficacGt3
namespace Go.Proofs.Ytmclbnhbioficac
open Go.RowKit

theorem G.drewN {a w : World} (h : G a w) (n : Nat) : G a (w.drewN n) := h.trans ⟨rfl, rfl, rfl, Nat.le_refl _, fun _ _ => rfl⟩
theorem HP.at {w : World} {b g n cap : Nat} {x : Gx} {l : List It} (h : HP w b x (.slice (some ⟨g, 0, none⟩) n cap) l) {i : Nat} (hi : i < l.length) : w.cell? ⟨g, i * 3, none⟩ = some (I l[i]!.1.1) ∧ w.cell? ⟨g, i * 3 + 1, none⟩ = some (I l[i]!.1.2) ∧ w.cell? ⟨g, i * 3 + 2, none⟩ = some (I l[i]!.2) :=
  h.sl.at (Hp.get_o hi)
set_option maxRecDepth 100000 in
set_option maxHeartbeats 1000000 in
theorem find_any (b : Nat) (x : Gx) (v : Value) (l : List It) (id : Int) (k : Nat) (W : World) (hp : HP W b x v l) (hk : k < l.length) (hid : l[k]!.1.1 = id) (hf : ∀ j, j < k → l[j]!.1.1 ≠ id) (hm : l.length ≤ 1000) :
    Calls Try.prog 55 #[tpt b, I id] W fun e W' => e = .returned (I k) ∧ W' = W := by
  have hc := hp.cells
  obtain ⟨g, cap, rfl⟩ := hp.slice (by omega)
  have HPP := hide hp
  have HF := hide hf
  have HID := hide hid
  have HK := hide hk
  have HM := hide hm
  clear hp hf hid hk hm
  go_enter Try.func55, Try.ntmps55
  go_wp2_with fail
  go_loopw [5] (fun iv wr => ∃ i : Nat, iv = I i ∧ i ≤ k ∧ wr = W) (fun iv _ => k - (RowKit.intOf iv).toNat)
  case atStart => exact ⟨0, rfl, Nat.zero_le _, rfl⟩
  case round =>
    rename_i wr
    obtain ⟨i, rfl, hik, rfl⟩ := hrel
    have hil : i < l.length := Nat.lt_of_le_of_lt hik HK.out
    obtain ⟨x1, -, -⟩ := HPP.out.at hil
    have i1 : (i : Int) < l.length := Int.ofNat_lt.2 hil
    by_cases e : i = k
    · have hid : l[i]!.1.1 = id := by rw [e]; exact HID.out
      rw [hid] at x1
      have HE := hide e
      clear hik hil hid e
      go_wp2_with fail
      go_ret
      have hik := HE.out
      subst hik
      exact ⟨rfl, rfl⟩
    · have hne : (l[i]!.1.1 == id) = false := beq_eq_false_iff_ne.2 (HF.out i (by omega))
      have HR : Hid (i + 1 ≤ k) := by show _ ≤ _; omega
      have HW : Hid (wrap64 ((i : Int) + 1) = (i : Int) + 1) := by show _ = _; have := HM.out; unfold wrap64; omega
      have HMS : Hid (i < k) := by show _ < _; omega
      clear hik hil e
      generalize l[i]!.1.1 = y at x1 hne
      go_wp2_with fail
      rw [HW.out]
      go_roundw
      case rel => exact ⟨i + 1, rfl, HR.out, trivial⟩
      case measure => simp only [RowKit.intOf]; have := HMS.out; omega
set_option maxRecDepth 100000 in
set_option maxHeartbeats 1000000 in
theorem next_any (b : Nat) (x : Gx) (v : Value) (l : List It) (W : World) (hp : HP W b x v l) (hk : 0 < l.length) :
    Calls Try.prog 41 #[tpt b] W fun e W' => e = .returned (I l[0]!.1.1) ∧ W' = W := by
  have hc := hp.cells
  obtain ⟨g, cap, rfl⟩ := hp.slice (by omega)
  obtain ⟨x1, -, -⟩ := hp.at hk
  have i1 : (0 : Int) < l.length := by omega
  clear hp
  generalize l[0]!.1.1 = y at x1 ⊢
  go_enter Try.func41, Try.ntmps41
  go_wp2_with fail
  go_ret
  exact ⟨rfl, rfl⟩
end Go.Proofs.Ytmclbnhbioficac
