/- Fold: both sides at whatever list; the list that came in. -/
import Derived.Test.YtnoajhegcjoebabGreatDoorFold6
import Derived.Test.YtnoajhegcjoebabGreatDoorFold7
import Derived.Test.YtnoajhegcjoebabGreatDoorCmpPlays
namespace Go.Proofs.YtnoajhegcjoebabGreatDoor
open Go.RowKit Go.Lib Go.Shelf

set_option maxRecDepth 100000 in
set_option maxHeartbeats 2000000 in
theorem rFold_arg (agg : Int) (x : Value) (ho : agg < 1 ∨ 5 < agg) (w : World) : Calls Tryz.prog 52 #[.int .i64 agg, x] w fun e w' => e = .returned (.tuple #[V0, .int .i64 1]) ∧ G w w' := by
  by_cases h : agg < 1
  · clear ho
    go_enter Tryz.func52, Tryz.ntmps52
    go_wp2
    exact bodyPost_ret (v := .tuple #[V0, .int .i64 1]) (by simp [results, Tryz.results52, go_sem]) rfl ⟨rfl, by repeat (first | exact G.refl _ | refine G.alloc ?_ _ | refine G.setCell ?_ (by simp) _)⟩
  · have h' : 5 < agg := by omega
    clear ho
    go_enter Tryz.func52, Tryz.ntmps52
    go_wp2
    exact bodyPost_ret (v := .tuple #[V0, .int .i64 1]) (by simp [results, Tryz.results52, go_sem]) rfl ⟨rfl, by repeat (first | exact G.refl _ | refine G.alloc ?_ _ | refine G.setCell ?_ (by simp) _)⟩
theorem rFold_any (agg : Int) (h1 : 1 ≤ agg) (h5 : agg ≤ 5) (a : Option Addr) (cap : Nat) (L : List Qd) (w : World) (hV : L = [] ∨ VRow w (.slice a L.length cap) L) (hs : ∀ q ∈ L, q.2.2.2.size ≤ 4611686018427387904) (hn : L.length * 40 ≤ 140737488351232) (rv : Value) (c : Int) (q : Qd)
    (hR : (L.all Qd.ok = true ∧ GoodD (noNull L) ∧ FR agg (noNull L) rv c q) ∨ (L.all Qd.ok = false ∧ c = 16 ∧ q = Q0)) : Calls Tryz.prog 52 #[.int .i64 agg, .slice a L.length cap] w fun e w' => e = .returned (.tuple #[q.W, .int .i64 c]) ∧ G w w' := by
  have d : agg = 1 ∨ agg = 2 ∨ agg = 3 ∨ agg = 4 ∨ agg = 5 := by omega
  rcases d with rfl | rfl | rfl | rfl | rfl
  · exact rFold_1 a cap L w hV hs hn rv c q hR
  · exact rFold_2 a cap L w hV hs hn rv c q hR
  · exact rFold_3 a cap L w hV hs hn rv c q hR
  · exact rFold_4 a cap L w hV hs hn rv c q hR
  · exact rFold_5 a cap L w hV hs hn rv c q hR
/-- What is known of a list that came in. -/
def LOk (L : List Qd) : Prop := L.length * 40 ≤ reachBytes ∧ ∀ q ∈ L, I64 q.2.1 ∧ q.2.2.2.size ≤ reachBytes
theorem reach_le : reachBytes ≤ 140737488351232 := by unfold reachBytes; omega
theorem good_of {L : List Qd} (h : LOk L) (hA : L.all Qd.ok = true) : GoodD (noNull L) := by
  have hr := reach_le
  refine ⟨fun q hq => ?_, ?_⟩
  · obtain ⟨hm, hk⟩ := List.mem_filter.1 hq
    exact ⟨List.all_eq_true.1 hA q hm, by simpa using hk, (h.2 q hm).1⟩
  · have h1 : (noNull L).length ≤ L.length := List.length_filter_le _ _
    have := h.1
    omega
theorem fold_both (agg : Int) (a : Option Addr) (cap : Nat) (L : List Qd) (w : World) (hT : Rdy w) (hV : L = [] ∨ VRow w (.slice a L.length cap) L) (hL : LOk L) :
    ∃ (q : Qd) (c : Int), (∀ W x, G w W → VRow W x L → Calls Tryz.prog 51 #[.int .i64 agg, x] W fun e w' => e = .returned (.tuple #[q.W, .int .i64 c]) ∧ G W w') ∧ (∀ W, G w W → Calls Tryz.prog 52 #[.int .i64 agg, .slice a L.length cap] W fun e w' => e = .returned (.tuple #[q.W, .int .i64 c]) ∧ G W w') := by
  have hr := reach_le
  have hn : L.length * 40 ≤ 140737488351232 := Nat.le_trans hL.1 hr
  have hs : ∀ q ∈ L, q.2.2.2.size ≤ 4611686018427387904 := fun q hq => by have := (hL.2 q hq).2; omega
  have hVG : ∀ W, G w W → L = [] ∨ VRow W (.slice a L.length cap) L := fun W g => hV.imp id fun h => h.G g
  by_cases ho : agg < 1 ∨ 5 < agg
  · exact ⟨Q0, 1, fun W x _ _ => Fold_arg agg x ho W, fun W _ => rFold_arg agg _ ho W⟩
  · have h1 : 1 ≤ agg := by omega
    have h5 : agg ≤ 5 := by omega
    cases hA : L.all Qd.ok
    · exact ⟨Q0, 16, fun W x g h => Fold_bad agg h1 h5 x L W (hT.G g).1 h hn hA, fun W g => rFold_any agg h1 h5 a cap L W (hVG W g) hs hn V0 16 Q0 (.inr ⟨hA, rfl, rfl⟩)⟩
    · have hD := good_of hL hA
      obtain ⟨rv, c, q, hF⟩ := fr_ex agg h1 h5 (noNull L) hD
      exact ⟨q, c, fun W x g h => Fold_ok agg h1 h5 x L W (hT.G g).1 (hT.G g).2 h hn hA hD rv c q hF, fun W g => rFold_any agg h1 h5 a cap L W (hVG W g) hs hn rv c q (.inl ⟨hA, hD, hF⟩)⟩
theorem vs_list {w : World} {x : Value} (h : VsOk w x) : ∃ (a : Option Addr) (cap : Nat) (L : List Qd), x = .slice a L.length cap ∧ (L = [] ∨ VRow w (.slice a L.length cap) L) ∧ LOk L ∧ ((a = none ∧ L = [] ∧ cap = 0) ∨ ∃ ad, a = some ad ∧ ∀ j u, (flat L)[j]? = some u → w.cell? (ad.add j) = some u) := by
  rcases h with rfl | ⟨ad, len, cap, Q, rfl, hlc, hb, hQ⟩
  · exact ⟨none, 0, [], rfl, .inl rfl, ⟨Nat.zero_le _, fun q hq => absurd hq (List.not_mem_nil)⟩, .inl ⟨rfl, rfl, rfl⟩⟩
  · have hl : ((List.range len).map Q).length = len := by simp
    have hat : ∀ i q, ((List.range len).map Q)[i]? = some q → i < len ∧ q = Q i := fun i q hi => by
      obtain ⟨h1, h2⟩ := List.getElem?_eq_some_iff.1 hi
      rw [hl] at h1
      exact ⟨h1, by simpa using h2.symm⟩
    have hfl : ∀ j u, (flat ((List.range len).map Q))[j]? = some u → w.cell? (ad.add j) = some u := fun j u hj => by
      have hlt : j < len * 4 := by
        have := (List.getElem?_eq_some_iff.1 hj).1
        rw [flat_len, hl] at this
        exact this
      have e : j = (j / 4) * 4 + j % 4 := by omega
      have hi : j / 4 < len := by omega
      rw [e, flat_at _ (j / 4) (Q (j / 4)) (by simp [hi]) (j % 4) (by omega)] at hj
      rw [e, (hQ (j / 4) (by omega)).1 (j % 4) (by omega)]
      exact hj
    refine ⟨some ad, cap, (List.range len).map Q, by rw [hl], ?_, ⟨by rw [hl]; exact Nat.le_trans (Nat.mul_le_mul_right 40 hlc) hb, fun q hq => ?_⟩, .inr ⟨ad, rfl, hfl⟩⟩
    · by_cases h0 : len = 0
      · subst h0; exact .inl rfl
      · right; right
        have hsp : ad.spot = none := by
          have := (hQ 0 (by omega)).1 0 (by omega)
          have := World.cell?_spot this
          simpa [Addr.add] using this
        obtain ⟨b, off, sp⟩ := ad
        simp only at hsp
        subst hsp
        refine ⟨b, off, cap, rfl, by rw [hl]; exact hlc, fun i q hi j hj => ?_⟩
        obtain ⟨h1, rfl⟩ := hat i q hi
        have := (hQ i (by omega)).1 j hj
        rw [show (⟨b, off, none⟩ : Addr).add (i * 4 + j) = ⟨b, off + (i * 4 + j), none⟩ by unfold Addr.add; split <;> simp_all] at this
        exact this
    · obtain ⟨i, hi, rfl⟩ := List.mem_map.1 hq
      have hi' := List.mem_range.1 hi
      have := hQ i (by omega)
      exact ⟨this.2.2.1, this.2.2.2.2⟩
end Go.Proofs.YtnoajhegcjoebabGreatDoor
