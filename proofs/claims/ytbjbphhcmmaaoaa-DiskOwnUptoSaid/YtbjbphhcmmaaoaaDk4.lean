/- Disks: newest, Read. -/
import Derived.Test.YtbjbphhcmmaaoaaDk3
namespace Go.Proofs.Ytbjbphhcmmaaoaa
open Go.RowKit

def sector (l : List Nat) (at' : Nat) : List Nat := (l.drop (at' * 128)).take 128
/-- What a sector holds. -/
def DM.newest (m : DM) (at' : Nat) : List Nat := match m.pend.reverse.find? (fun e => e.1 == at') with | some e => e.2 | none => sector m.laid at'
theorem find_last {l : List (Nat × List Nat)} {k at' : Nat} {e : Nat × List Nat} (h : l[k]? = some e) (he : e.1 = at') (hn : ∀ j f, k < j → l[j]? = some f → f.1 ≠ at') : l.reverse.find? (fun e => e.1 == at') = some e := by
  obtain ⟨hk, hke⟩ := List.getElem?_eq_some_iff.1 h
  have e1 : l = l.take k ++ e :: l.drop (k + 1) := by
    rw [← hke, List.getElem_cons_drop, List.take_append_drop]
  rw [e1, List.reverse_append, List.reverse_cons, List.append_assoc, List.find?_append]
  have h0 : (l.drop (k + 1)).reverse.find? (fun e => e.1 == at') = none := by
    rw [List.find?_eq_none]
    intro f hf
    rw [List.mem_reverse] at hf
    obtain ⟨j, hj⟩ := List.getElem?_of_mem hf
    rw [List.getElem?_drop] at hj
    simpa using hn (k + 1 + j) f (by omega) hj
  rw [h0]
  simp [he]
theorem find_none {l : List (Nat × List Nat)} {at' : Nat} (hn : ∀ (j : Nat) f, l[j]? = some f → f.1 ≠ at') : l.reverse.find? (fun e => e.1 == at') = none := by
  rw [List.find?_eq_none]
  intro f hf
  rw [List.mem_reverse] at hf
  obtain ⟨j, hj⟩ := List.getElem?_of_mem hf
  simpa using hn j f hj
theorem entC_len {e : Nat × List Nat} (h : e.2.length = 128) : (entC e).length = 129 := by simp [entC, h]
theorem pendC_len {l : List (Nat × List Nat)} (h : ∀ e ∈ l, e.2.length = 128) : (pendC l).length = l.length * 129 := by
  induction l with
  | nil => rfl
  | cons e l ih =>
    have h1 := entC_len (h e (by simp))
    have h2 := ih (fun f hf => h f (by simp [hf]))
    have : pendC (e :: l) = entC e ++ pendC l := by simp [pendC]
    rw [this, List.length_append, h1, h2, List.length_cons]; omega
theorem pendC_at {l : List (Nat × List Nat)} (h : ∀ e ∈ l, e.2.length = 128) : ∀ {i : Nat} {e : Nat × List Nat}, l[i]? = some e → ∀ j, j < 129 → (pendC l)[i * 129 + j]? = (entC e)[j]? := by
  induction l with
  | nil => intro i e hi; simp at hi
  | cons f l ih =>
    intro i e hi j hj
    have h1 := entC_len (h f (by simp))
    have : pendC (f :: l) = entC f ++ pendC l := by simp [pendC]
    rw [this]
    cases i with
    | zero =>
      simp at hi; subst hi
      rw [Nat.zero_mul, Nat.zero_add, List.getElem?_append_left (by omega)]
    | succ i =>
      rw [List.getElem?_append_right (by rw [h1]; omega), h1, show (i + 1) * 129 + j - 129 = i * 129 + j by omega]
      exact ih (fun f hf => h f (by simp [hf])) (by simpa using hi) j hj
/-- An entry of the writes that wait, in memory. -/
theorem own_ent {w : World} {b g cap : Nat} {l : List (Nat × List Nat)} (h : w.ownsRow b 84 129 (.slice (some ⟨g, 0, none⟩) l.length cap) l.length (pendC l)) (hl : ∀ e ∈ l, e.2.length = 128) {i : Nat} {e : Nat × List Nat} (hi : l[i]? = some e) : w.rangeAt g (i * 129) (entC e) := fun j v hv => by
  have hj : j < 129 := by have := (List.getElem?_eq_some_iff.1 hv).1; rw [entC_len (hl e (List.mem_of_getElem? hi))] at this; exact this
  have hi' := (List.getElem?_eq_some_iff.1 hi).1
  rw [h.cellAt (i * 129 + j) (by omega), pendC_at hl hi j hj]; exact hv
theorem rangeAt_tail {w : World} {g o : Nat} {v : Value} {vs : List Value} (h : w.rangeAt g o (v :: vs)) : w.cell? ⟨g, o, none⟩ = some v ∧ w.rangeAt g (o + 1) vs := ⟨h 0 v rfl, fun j u hj => by
  have := h (j + 1) u (by simpa using hj)
  rw [show o + 1 + j = o + (j + 1) by omega]; exact this⟩
theorem rangeAt_G {w w' : World} {g o : Nat} {vs : List Value} (h : w.rangeAt g o vs) (k : G w w') : w'.rangeAt g o vs := fun j v hv => by
  have := h j v hv
  exact (k.cell (World.block_lt_of_cell? _ _ this)).trans this
theorem sector_range {w : World} {lb e at' n : Nat} {l : List Nat} (h : Blk w lb e (l.map bv)) (_ : l.length = n * 128) (_ : at' < n) : w.rangeAt lb (at' * 128) ((sector l at').map bv) := by
  have := h.range (at' * 128) 128
  rw [← List.map_drop, ← List.map_take] at this
  exact this
theorem sector_len {l : List Nat} {n at' : Nat} (hl : l.length = n * 128) (ha : at' < n) : (sector l at').length = 128 := by
  unfold sector
  rw [List.length_take, List.length_drop, hl]
  have : (at' + 1) * 128 ≤ n * 128 := Nat.mul_le_mul_right _ ha
  omega
theorem DM.newest_len {m : DM} (ok : m.ok) {at' : Nat} (ha : at' < m.n) : (m.newest at').length = 128 := by
  unfold DM.newest
  split
  · rename_i e he
    exact (ok.p e (by have := List.mem_of_find?_eq_some he; simpa using this)).2.1
  · exact sector_len ok.ll ha
set_option maxRecDepth 100000 in
set_option maxHeartbeats 2000000 in
theorem newest_any (F : Nat → Prop) (m : DM) (p at' : Nat) (ha : at' < m.n) (hB : m.pend.length ≤ 549755813888) (w : World) (h : PD w F p m) : Calls Try.prog 31 #[.pointer (some ⟨p, 0, none⟩), .int .i64 at'] w fun e w' => e = .returned (.agg ((m.newest at').map bv).toArray) ∧ G w w' := by
  obtain ⟨ok, ⟨lb, ps, hb, hlb, hown, _⟩, _⟩ := h
  have hp : ∃ pa pc, ps = .slice pa m.pend.length pc ∧ (m.pend.length ≠ 0 → ∃ g, pa = some ⟨g, 0, none⟩ ∧ m.pend.length ≤ pc) := by
    rcases hown.2 with ⟨rfl, hn⟩ | ⟨g, cap, cur, rfl, _, _, hc, _⟩
    · exact ⟨none, 0, by rw [hn], fun h => absurd hn h⟩
    · exact ⟨_, _, rfl, fun _ => ⟨g, rfl, hc⟩⟩
  obtain ⟨pa, pc, rfl, hpp⟩ := hp
  have hg := (G.refl w).alloc (.cells zeroCells81 81)
  have hb1 := hb.G hg
  have hl1 := hlb.G hg
  have ho1 := own_G hown hg
  have hr1 := Blk.zsec w
  have hlen : ∀ e ∈ m.pend, e.2.length = 128 := fun e he => (ok.p e he).2.1
  have hc0 := hb.headC
  have hpl := hb.lt
  clear hb hlb hown
  go_enter Try.func31, Try.ntmps31
  go_wp2
  clear hc0 hpl
  generalize w.alloc (.cells zeroCells81 81) = w1 at hg hb1 hl1 ho1 hr1 ⊢
  have HRB : Hid (Blk w1 w.heap.size 81 ((List.replicate 128 0).map bv)) := hr1
  have HG : Hid (G w w1) := hg
  have HLB : Hid (Blk w1 lb 81 (m.laid.map bv)) := hl1
  have HOW : Hid (w1.ownsRow 0 84 129 (.slice pa m.pend.length pc) m.pend.length (pendC m.pend)) := ho1
  have HP : Hid (m.pend.length ≠ 0 → ∃ g, pa = some ⟨g, 0, none⟩ ∧ m.pend.length ≤ pc) := hpp
  have HLN : Hid (∀ e ∈ m.pend, e.2.length = 128) := hlen
  have HOK : Hid m.ok := ok
  have hc := hb1.headC
  clear hr1 hg hl1 ho1 hpp hlen ok hb1
  go_loopw [5] (fun i W => W = w1 ∧ ((i = .int .i64 (-1) ∧ ∀ (j : Nat) f, m.pend[j]? = some f → f.1 ≠ at') ∨ ∃ k : Nat, k < m.pend.length ∧ i = .int .i64 k ∧ ∀ (j : Nat) f, k < j → m.pend[j]? = some f → f.1 ≠ at')) (fun i _ => ((RowKit.intOf i) + 1).toNat)
  case atStart =>
    refine ⟨rfl, ?_⟩
    by_cases h0 : m.pend.length = 0
    · left
      refine ⟨by rw [h0]; rfl, fun j f hj => ?_⟩
      have := (List.getElem?_eq_some_iff.1 hj).1
      omega
    · right
      refine ⟨m.pend.length - 1, by omega, by congr 1; omega, fun j f hk hj => ?_⟩
      have := (List.getElem?_eq_some_iff.1 hj).1
      omega
  case round =>
    obtain ⟨rfl, hrel⟩ := hrel
    rcases hrel with ⟨rfl, hno⟩ | ⟨k, hk, rfl, hno⟩
    · obtain ⟨xs, hxs⟩ : ∃ xs, xs = m.newest at' := ⟨_, rfl⟩
      have HXE : Hid (m.newest at' = xs) := hxs.symm
      have HXL : Hid ((xs.map bv).length = 128) := by unfold Hid; rw [List.length_map, hxs]; exact DM.newest_len HOK.out ha
      have HXR : Hid (wr.rangeAt lb (at' * 128) (xs.map bv)) := by
        have : xs = sector m.laid at' := by rw [hxs]; unfold DM.newest; rw [find_none hno]
        unfold Hid
        rw [this]
        exact sector_range HLB.out HOK.out.ll ha
      have haI : (at' : Int) < (m.n : Int) := by omega
      clear hxs hno
      go_wp2_with (first | refine wpList_load_mid rfl 81 _ rfl _ _ rfl (xs.map bv) _ HXR.out Try.underlying81 rfl (by rw [HXL.out]; exact size_sec) ?_ | refine wpList_store_mid rfl 81 _ _ rfl w.heap.size 0 (xs.map bv).toArray rfl rfl (HRB.out.there 0 _ (by rw [len128, List.size_toArray, HXL.out]; decide)) (by rw [List.size_toArray, HXL.out]; exact size_sec) (all_oneCell_toArray (one_map _)) ?_)
      refine bodyPost_ret_by (v := .agg (xs.map bv).toArray) (ret_cell Try.results31 _ _ w.heap.size (xs.map bv) _ rfl (HRB.out.whole _ (by rw [len128, HXL.out])).all Try.underlying81 rfl (by rw [HXL.out]; exact size_sec)) rfl ⟨by rw [HXE.out], G.setCells _ HG.out (Nat.le_refl _)⟩
    · obtain ⟨g, rfl, hpc⟩ := HP.out (by omega)
      obtain ⟨e, he⟩ : ∃ e, m.pend[k]? = some e := ⟨_, List.getElem?_eq_getElem hk⟩
      obtain ⟨hat, hdat⟩ := rangeAt_tail (own_ent HOW.out HLN.out he)
      have HH : Hid (wr.rangeAt g (k * 129 + 1) (e.2.map bv)) := hdat
      have hkI : (k : Int) < (m.pend.length : Int) := by omega
      clear hdat
      by_cases hea : e.1 = at'
      · obtain ⟨xs, hxs⟩ : ∃ xs, xs = m.newest at' := ⟨_, rfl⟩
        have HXE : Hid (m.newest at' = xs) := hxs.symm
        have HXL : Hid ((xs.map bv).length = 128) := by unfold Hid; rw [List.length_map, hxs]; exact DM.newest_len HOK.out ha
        have HXR : Hid (wr.rangeAt g (k * 129 + 1) (xs.map bv)) := by
          have : xs = e.2 := by rw [hxs]; unfold DM.newest; rw [find_last he hea hno]
          unfold Hid
          rw [this]
          exact HH.out
        rw [hea] at hat
        clear hxs hno he hea
        go_wp2_with (first | refine wpList_load_mid rfl 81 _ rfl _ _ rfl (xs.map bv) _ HXR.out Try.underlying81 rfl (by rw [HXL.out]; exact size_sec) ?_ | refine wpList_store_mid rfl 81 _ _ rfl w.heap.size 0 (xs.map bv).toArray rfl rfl (HRB.out.there 0 _ (by rw [len128, List.size_toArray, HXL.out]; decide)) (by rw [List.size_toArray, HXL.out]; exact size_sec) (all_oneCell_toArray (one_map _)) ?_)
        refine bodyPost_ret_by (v := .agg (xs.map bv).toArray) (ret_cell Try.results31 _ _ w.heap.size (xs.map bv) _ rfl (HRB.out.whole _ (by rw [len128, HXL.out])).all Try.underlying81 rfl (by rw [HXL.out]; exact size_sec)) rfl ⟨by rw [HXE.out], G.setCells _ HG.out (Nat.le_refl _)⟩
      · have hne : ¬ ((e.1 : Int) = (at' : Int)) := by omega
        have HNO : Hid (∀ (j : Nat) f, k - 1 < j → m.pend[j]? = some f → f.1 ≠ at') := fun j f hj hf => by
          by_cases hjk : j = k
          · subst hjk; rw [he] at hf; cases hf; exact hea
          · exact hno j f (by omega) hf
        have HN0 : Hid (k = 0 → ∀ (j : Nat) f, m.pend[j]? = some f → f.1 ≠ at') := fun h0 j f hf => by
          by_cases hjk : j = k
          · subst hjk; rw [he] at hf; cases hf; exact hea
          · exact hno j f (by omega) hf
        clear hno he hea
        go_wp2
        go_roundw
        case rel =>
          refine ⟨by first | rfl | trivial, ?_⟩
          by_cases h0 : k = 0
          · left; exact ⟨by rw [h0]; rfl, HN0.out h0⟩
          · right; exact ⟨k - 1, by omega, by congr 1; omega, HNO.out⟩
        case measure => simp [RowKit.intOf]
set_option maxRecDepth 100000 in
set_option maxHeartbeats 2000000 in
theorem read_any (F : Nat → Prop) (m : DM) (p : Nat) (n : Int) (hB : m.pend.length ≤ 549755813888) (w : World) (h : PD w F p m) : Calls Try.prog 15 #[.pointer (some ⟨p, 0, none⟩), .int .i64 n] w fun e w' => G w w' ∧
    ((¬ (0 ≤ n ∧ n < m.n) ∧ e = .returned (.tuple #[.slice none 0 0, .int .i64 20])) ∨ ((0 ≤ n ∧ n < m.n) ∧ m.off = true ∧ e = .returned (.tuple #[.slice none 0 0, .int .i64 2])) ∨
     ((0 ≤ n ∧ n < m.n) ∧ m.off = false ∧ ∃ g, w.heap.size ≤ g ∧ e = .returned (.tuple #[.slice (some ⟨g, 0, none⟩) 128 128, .int .i64 0]) ∧ Blk w' g 5 ((m.newest n.toNat).map bv))) := by
  have HP : Hid (PD w F p m) := h
  obtain ⟨ok, ⟨lb, ps, hb, _⟩, _⟩ := h
  have HH : Hid (∀ at', Calls Try.prog 30 #[.pointer (some ⟨p, 0, none⟩), .int .i64 at'] w fun e w' => e = .returned (.bool (decide (0 ≤ at') && decide (at' < m.n))) ∧ w' = w) := fun at' => has_any m ok lb ps p at' w hb
  have HOK : Hid m.ok := ok
  have hc := hb.headC
  clear hb ok
  by_cases hin : 0 ≤ n ∧ n < m.n
  · have HIN : Hid (0 ≤ n ∧ n < m.n) := hin
    have e1 : (decide (0 ≤ n) && decide (n < m.n)) = true := by simp [hin]
    have HH1 := HH.out n
    rw [e1] at HH1
    have HH2 := hide (HH1)
    clear HH1 HH e1
    cases hoff : m.off with
    | true =>
      rw [hoff] at hc
      go_enter Try.func15, Try.ntmps15
      go_wp2_with fail
      refine HH2.out.mono ?_
      rintro e w1 ⟨rfl, rfl⟩
      clear HH2
      go_wp2
      go_ret2
      exact ⟨G.refl _, .inr (.inl ⟨HIN.out, by first | rfl | trivial, rfl⟩)⟩
    | false =>
      rw [hoff] at hc
      obtain ⟨at', rfl⟩ : ∃ a : Nat, n = a := ⟨n.toNat, by omega⟩
      have ha : at' < m.n := by omega
      have HN := hide (newest_any F m p at' ha hB w HP.out)
      have HL := DM.newest_len HOK.out ha
      go_enter Try.func15, Try.ntmps15
      go_wp2_with fail
      refine HH2.out.mono ?_
      rintro e w1 ⟨rfl, rfl⟩
      clear HH2
      go_wp2_with fail
      refine HN.out.mono ?_
      rintro e w2 ⟨rfl, hg⟩
      have HY := hide (bytes_any (m.newest at') HL w2)
      have HG : Hid (G w1 w2) := hg
      clear hg HN hc
      go_wp2_with fail
      refine HY.out.mono ?_
      rintro e w3 ⟨rfl, hg, hbk⟩
      have HG2 : Hid (G w1 w3) := HG.out.trans hg
      have HB : Hid (Blk w3 (w2.heap.size + 1) 5 ((m.newest at').map bv)) := hbk
      clear hg hbk HY
      go_wp2
      go_ret2
      exact ⟨HG2.out, .inr (.inr ⟨HIN.out, by first | rfl | trivial, w2.heap.size + 1, by have := HG.out.size; omega, rfl, HB.out⟩)⟩
  · have HIN : Hid (¬ (0 ≤ n ∧ n < m.n)) := hin
    have e1 : (decide (0 ≤ n) && decide (n < m.n)) = false := by
      by_cases h0 : 0 ≤ n
      · have : ¬ n < m.n := fun h => hin ⟨h0, h⟩
        simp [this]
      · simp [h0]
    have HH1 := HH.out n
    rw [e1] at HH1
    have HH2 := hide (HH1)
    clear HH1 HH e1 hin
    go_enter Try.func15, Try.ntmps15
    go_wp2_with fail
    refine HH2.out.mono ?_
    rintro e w1 ⟨rfl, rfl⟩
    clear HH2
    go_wp2
    go_ret2
    exact ⟨G.refl _, .inl ⟨HIN.out, rfl⟩⟩
set_option maxRecDepth 100000 in
set_option maxHeartbeats 2000000 in
theorem read_nil (n : Int) (w : World) : Calls Try.prog 15 #[.pointer none, .int .i64 n] w fun e w' => e = .returned (.tuple #[.slice none 0 0, .int .i64 1]) ∧ w' = w := by
  go_enter Try.func15, Try.ntmps15
  go_wp2
  go_ret2
  exact ⟨rfl, rfl⟩
end Go.Proofs.Ytbjbphhcmmaaoaa
