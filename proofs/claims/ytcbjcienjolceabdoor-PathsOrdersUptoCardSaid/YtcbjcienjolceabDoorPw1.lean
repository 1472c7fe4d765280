/- Paths: slices.Reverse. -/
import Derived.Test.YtcbjcienjolceabDoorPwx
import Derived.BigRegion
namespace Go.Proofs.YtcbjcienjolceabDoor
open Go.RowKit

theorem ms3 {k n : Nat} (h : k < n) : n - ((k : Int) + 1).toNat < n - (k : Int).toNat := by omega
theorem wr1 {n i : Nat} (h : n ≤ 17179869184) (hi : i ≤ n) : wrap64 ((n : Int) - 1) = (n : Int) - 1 ∧ wrap64 ((i : Int) + 1) = (i : Int) + 1 ∧ wrap64 ((n : Int) - 1 - i - 1) = (n : Int) - 1 - ((i + 1 : Nat) : Int) := by unfold wrap64; omega
set_option maxRecDepth 100000 in
set_option maxHeartbeats 2000000 in
theorem rev_any (lo : Nat) (W : World) (v : Value) (l : List Int) (h : Rw lo 2 1 W v l.length (l.map I)) (hb : l.length ≤ 17179869184) :
    Calls Tryd.prog 55 #[v] W fun e W' => e = .returned (.tuple #[]) ∧ Rw lo 2 1 W' v l.length (l.reverse.map I) ∧ Chg (fun k => v.ownBlock = some k) W W' := by
  obtain ⟨va, vc, rfl⟩ := Rw.form h
  obtain ⟨n, hn⟩ : ∃ n, n = l.length := ⟨_, rfl⟩
  rw [← hn] at h hb ⊢
  have HN := hide hn
  have H := hide h
  clear h hn
  obtain ⟨wA, -, -⟩ := wr1 hb (Nat.zero_le _)
  go_enter Tryd.func55, Tryd.ntmps55
  go_wp2_with fail
  go_loopw [2, 3] (fun iv jv wr => ∃ (i : Nat) (L : List Int), iv = I i ∧ jv = I ((n : Int) - 1 - i) ∧ i ≤ n ∧ L.length = n ∧ (∀ q, q < n → L[q]? = if q < i ∨ n ≤ q + i then l[n - 1 - q]? else l[q]?) ∧ Rw lo 2 1 wr (.slice va n vc) n (L.map I) ∧ Chg (fun k => (Value.slice va n vc).ownBlock = some k) W wr ∧ 2 * i ≤ n) (fun iv _ _ => n - (RowKit.intOf iv).toNat)
  case atStart => exact ⟨0, l, rfl, by simp, Nat.zero_le _, HN.out.symm, fun q hq => by rw [if_neg (by omega)], H.out, Chg.refl _ _, by omega⟩
  case round =>
    obtain ⟨i, L, rfl, hjv, hi, hL, hq, hr, hc, h2⟩ := hrel
    obtain ⟨-, w1, w2⟩ := wr1 hb hi
    obtain ⟨jj, hjj⟩ : ∃ jj : Int, jj = (n : Int) - 1 - i := ⟨_, rfl⟩
    rw [← hjj] at w2 hjv
    subst hjv
    by_cases hlt : (i : Int) < jj
    · have hld : decide ((i : Int) < jj) = true := decide_eq_true hlt
      obtain ⟨j, hjn⟩ : ∃ j : Nat, jj = (j : Int) := ⟨n - 1 - i, by omega⟩
      subst hjn
      have hj := hjj
      obtain ⟨x, hx⟩ : ∃ x, l[i]? = some x := ⟨_, List.getElem?_eq_getElem (by have := HN.out; omega)⟩
      obtain ⟨y, hy⟩ : ∃ y, l[j]? = some y := ⟨_, List.getElem?_eq_getElem (by have := HN.out; omega)⟩
      have hLi : L[i]? = some x := by rw [hq i (by omega), if_neg (by omega)]; exact hx
      have hLj : L[j]? = some y := by rw [hq j (by omega), if_neg (by omega)]; exact hy
      obtain ⟨g, cap, rest, heq, hlg, hblk, hlen⟩ := hr.blk (by omega)
      obtain ⟨rfl, rfl⟩ : va = some ⟨g, 0, none⟩ ∧ vc = cap := by simp at heq; exact heq
      have hz := hblk.frozen
      have ci : wr.cell? ⟨g, i, none⟩ = some (I x) := by rw [hblk.cell, List.getElem?_append_left (by rw [List.length_map]; omega), List.getElem?_map, hLi]; rfl
      have cj : wr.cell? ⟨g, j, none⟩ = some (I y) := by rw [hblk.cell, List.getElem?_append_left (by rw [List.length_map]; omega), List.getElem?_map, hLj]; rfl
      have hz2 := (hblk.set i (I y)).frozen
      have cj2 : (wr.setCell ⟨g, i, none⟩ (I y)).cell? ⟨g, j, none⟩ = some (I y) := by
        have hne : i ≠ j := by omega
        rw [(hblk.set i (I y)).cell, List.getElem?_set_ne hne, ← hblk.cell]; exact cj
      have hjn : (j : Int) < n := by omega
      have hin : (i : Int) < n := by omega
      have HREL : Hid (∃ (i' : Nat) (L' : List Int), I ((i : Int) + 1) = I i' ∧ I ((j : Int) - 1) = I ((n : Int) - 1 - i') ∧ i' ≤ n ∧ L'.length = n ∧ (∀ q, q < n → L'[q]? = if q < i' ∨ n ≤ q + i' then l[n - 1 - q]? else l[q]?) ∧ Rw lo 2 1 ((wr.setCell ⟨g, i, none⟩ (I y)).setCell ⟨g, j, none⟩ (I x)).drew (.slice (some ⟨g, 0, none⟩) n vc) n (L'.map I) ∧ Chg (fun k => (Value.slice (some ⟨g, 0, none⟩) n vc).ownBlock = some k) W ((wr.setCell ⟨g, i, none⟩ (I y)).setCell ⟨g, j, none⟩ (I x)).drew ∧ 2 * i' ≤ n) := by
        refine ⟨i + 1, (L.set i y).set j x, by simp, congrArg I (by omega), by omega, by simp [hL], fun q hqn => ?_, ?_, ?_, by omega⟩
        · by_cases e1 : q = j
          · subst e1
            rw [List.getElem?_set_self (by rw [List.length_set]; omega), if_pos (by omega), show n - 1 - q = i by omega]
            exact hx.symm
          · rw [List.getElem?_set_ne (fun e => e1 e.symm)]
            by_cases e2 : q = i
            · subst e2
              rw [List.getElem?_set_self (by omega), if_pos (by omega), show n - 1 - q = j by omega]
              exact hy.symm
            · rw [List.getElem?_set_ne (fun e => e2 e.symm), hq q hqn]
              by_cases e3 : q < i ∨ n ≤ q + i
              · rw [if_pos e3, if_pos (by omega)]
              · rw [if_neg e3, if_neg (by omega)]
        · rw [List.map_set, List.map_set]
          exact Rw.G (Rw.set (Rw.set hr i (by omega) (I y)) j (by omega) (I x)) (G.drew (G.refl _))
        · exact hc.trans (((chg_setCell (F := fun k => (Value.slice (some ⟨g, 0, none⟩) n vc).ownBlock = some k) _ _ (.inl rfl)).trans (chg_setCell _ _ (.inl rfl))).trans (chg_drew _))
      have w3 : wrap64 ((j : Int) - 1) = (j : Int) - 1 := by rw [w2]; omega
      have HLT : Hid (i < n) := by show i < n; omega
      clear hr hc hq heq hblk hlen hx hy hLi hLj hi h2 hj hjj w2
      go_wp2_with fail
      go_region
      go_wp2_with fail
      go_roundw
      case rel => (try rw [w1]); (try rw [w3]); exact HREL.out
      case measure => (try rw [w1]); simp only [RowKit.intOf]; exact ms3 HLT.out
    · have hld : decide ((i : Int) < jj) = false := decide_eq_false hlt
      have HE : Hid (L = l.reverse) := by
        show L = _
        refine List.ext_getElem? fun q => ?_
        have hn := HN.out
        by_cases hqn : q < n
        · rw [hq q hqn, List.getElem?_reverse (by omega)]
          by_cases e3 : q < i ∨ n ≤ q + i
          · rw [if_pos e3, ← hn]
          · rw [if_neg e3, ← hn, show n - 1 - q = q by omega]
        · rw [List.getElem?_eq_none (by omega), List.getElem?_eq_none (by rw [List.length_reverse]; omega)]
      have HR := hide hr
      have HC := hide hc
      clear hr hc hq hi h2 hjj
      go_wp2_with fail
      go_end0
      refine ⟨rfl, ?_, HC.out⟩
      (try rw [← List.map_reverse])
      rw [← HE.out]
      exact HR.out
end Go.Proofs.YtcbjcienjolceabDoor
