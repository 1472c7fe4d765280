/- value.guessOfBool, guessOfNumberBytes. -/
import Derived.Test.YtdiikofgilplkaaDoorDec3
namespace Go.Proofs.YtdiikofgilplkaaDoor
open Go.RowKit Go.Shelf Go.PlainAid Go.Lib

set_option maxRecDepth 100000 in
set_option maxHeartbeats 8000000 in
theorem gbo_yes (x : Value) (ts : List Nat) (w : World) (hx : RowB w x ts) (hl : ts.length ≤ 140737488355328) (h : ts[0]? = some 1) : Calls Tryd.prog 40 #[x] w fun e w' => e = .returned (V 1 1 0 E0) ∧ G w w' := by
  obtain ⟨p, cap, rfl, hcap, hc⟩ := hx
  obtain ⟨g, o, rfl, hcell⟩ := hc 0 1 h
  rw [Nat.add_zero] at hcell
  have hlt : (0 : Int) < (ts.length : Int) := by have := (List.getElem?_eq_some_iff.1 h).1; omega
  have hz : g < w.heap.size := cell_ltE hcell
  clear hc h
  go_enter Tryd.func40, Tryd.ntmps40
  go_wp2
  exact bodyPost_ret (v := V 1 1 0 E0) (by simp [results, Tryd.results40, go_sem]) rfl ⟨rfl, by repeat (first | exact G.refl _ | assumption | refine G.alloc ?_ _ | refine G.drew ?_ | refine G.setCell ?_ (by simp) _ | refine G.trans ?_ (by assumption))⟩
set_option maxRecDepth 100000 in
set_option maxHeartbeats 8000000 in
theorem gbo_no0 (p : Option Addr) (cap : Nat) (w : World) : Calls Tryd.prog 40 #[.slice p 0 cap] w fun e w' => e = .returned (V 1 0 0 E0) ∧ G w w' := by
  go_enter Tryd.func40, Tryd.ntmps40
  go_wp2
  exact bodyPost_ret (v := V 1 0 0 E0) (by simp [results, Tryd.results40, go_sem]) rfl ⟨rfl, by repeat (first | exact G.refl _ | assumption | refine G.alloc ?_ _ | refine G.drew ?_ | refine G.setCell ?_ (by simp) _ | refine G.trans ?_ (by assumption))⟩
set_option maxRecDepth 100000 in
set_option maxHeartbeats 8000000 in
theorem gbo_no1 (x : Value) (ts : List Nat) (w : World) (hx : RowB w x ts) (hl : ts.length ≤ 140737488355328) (d : Nat) (h : ts[0]? = some d) (hd : d ≠ 1) : Calls Tryd.prog 40 #[x] w fun e w' => e = .returned (V 1 0 0 E0) ∧ G w w' := by
  obtain ⟨p, cap, rfl, hcap, hc⟩ := hx
  obtain ⟨g, o, rfl, hcell⟩ := hc 0 d h
  rw [Nat.add_zero] at hcell
  have hlt : (0 : Int) < (ts.length : Int) := by have := (List.getElem?_eq_some_iff.1 h).1; omega
  have hz : g < w.heap.size := cell_ltE hcell
  have hdn : ((d : Int) == 1) = false := by simp; omega
  clear hc h hd
  go_enter Tryd.func40, Tryd.ntmps40
  go_wp2
  exact bodyPost_ret (v := V 1 0 0 E0) (by simp [results, Tryd.results40, go_sem]) rfl ⟨rfl, by repeat (first | exact G.refl _ | assumption | refine G.alloc ?_ _ | refine G.drew ?_ | refine G.setCell ?_ (by simp) _ | refine G.trans ?_ (by assumption))⟩
/-- guessOfBool at every row. -/
theorem gbo_any (x : Value) (ts : List Nat) (w : World) (hx : RowB w x ts) (hl : ts.length ≤ 140737488355328) : Calls Tryd.prog 40 #[x] w fun e w' => e = .returned (V 1 (if ts[0]? = some 1 then 1 else 0) 0 E0) ∧ G w w' := by
  cases h : ts[0]? with
  | none =>
    obtain ⟨p, cap, rfl, hcap, hc⟩ := hx
    have e : ts.length = 0 := by have := List.getElem?_eq_none_iff.1 h; omega
    rw [e]; exact gbo_no0 p cap w
  | some d =>
    by_cases hd : d = 1
    · subst hd; exact gbo_yes x ts w hx hl h
    · rw [if_neg (by simp; exact hd)]; exact gbo_no1 x ts w hx hl d h hd
/-- A row without its first byte. -/
theorem row_tail {w : World} {g o n cap : Nat} {ts : List Nat} (h : RowB w (.slice (some ⟨g, o, none⟩) n cap) ts) (hn : 0 < ts.length) (_hc1 : ¬ cap = 1) : RowB w (.slice (some ⟨g, o + 1, none⟩) (n - 1) (cap - 1)) (ts.drop 1) := by
  obtain ⟨p, cap', he, hcap, hc⟩ := h
  cases he
  exact row_from hcap hn fun i d hi => by
    obtain ⟨g', o', h1, h2⟩ := hc i d hi
    cases h1; exact h2
theorem row_tail1 {w : World} {g o n : Nat} {ts : List Nat} (h : RowB w (.slice (some ⟨g, o, none⟩) n 1) ts) (hn : 0 < ts.length) : n = 1 ∧ RowB w (.slice (some ⟨g, o, none⟩) 0 0) (ts.drop 1) := by
  obtain ⟨p, cap', he, hcap, hc⟩ := h
  cases he
  refine ⟨by omega, ?_⟩
  rw [List.drop_of_length_le (by omega)]
  exact ⟨_, 0, rfl, Nat.le_refl _, fun i d h => by simp at h⟩
/-- What a number's bytes are read as. -/
def GNP (bs : List Nat) (k a b : Int) (s : ByteArray) : Prop :=
  (∀ a0 rest, R64 a0 → bs = (encW a0 ++ [0]) ++ rest → k = 2 ∧ a = a0 ∧ b = 0 ∧ s = E0) ∧ (∀ a0 b0 rest, R64 a0 → R64 b0 → bs = ((encW a0 ++ [1]) ++ encW b0) ++ rest → k = 3 ∧ a = a0 ∧ b = b0 ∧ s = E0)
theorem gnp_whole {bs ts : List Nat} {n : Int} (h : TWP bs n ts) (h1 : ts[0]? ≠ some 1) : GNP bs 2 n 0 E0 := by
  refine ⟨fun a0 rest hr he => ?_, fun a0 b0 rest hr _ he => ?_⟩
  · obtain ⟨rfl, _⟩ := h a0 ([0] ++ rest) hr (by rw [he, List.append_assoc])
    exact ⟨rfl, rfl, rfl, rfl⟩
  · obtain ⟨_, rfl⟩ := h a0 ([1] ++ (encW b0 ++ rest)) hr (by rw [he]; simp)
    exact absurd rfl h1
theorem gnp_pair {bs ts us : List Nat} {n m : Int} (h : TWP bs n ts) (h1 : ts[0]? = some 1) (h2 : TWP (ts.drop 1) m us) : GNP bs 3 n m E0 := by
  refine ⟨fun a0 rest hr he => ?_, fun a0 b0 rest hr hr2 he => ?_⟩
  · obtain ⟨_, rfl⟩ := h a0 ([0] ++ rest) hr (by rw [he, List.append_assoc])
    cases h1
  · obtain ⟨rfl, rfl⟩ := h a0 ([1] ++ (encW b0 ++ rest)) hr (by rw [he]; simp)
    obtain ⟨rfl, _⟩ := h2 b0 rest hr2 rfl
    exact ⟨rfl, rfl, rfl, rfl⟩
/-- What guessOfNumberBytes answers. -/
def GNA (bs : List Nat) (w : World) (e : Ending) (w' : World) : Prop := ∃ (k a b : Int), e = .returned (V k a b E0) ∧ R64 a ∧ R64 b ∧ GNP bs k a b E0 ∧ G w w'
set_option maxRecDepth 100000 in
set_option maxHeartbeats 8000000 in
theorem gn_any (x : Value) (bs : List Nat) (w : World) (hx : RowB w x bs) (hb : ∀ d ∈ bs, d < 256) (hl : bs.length ≤ 140737488355328) : Calls Tryd.prog 43 #[x] w (GNA bs w) := by
  have H1 : Hid (∀ W, G w W → Calls Tryd.prog 42 #[x] W (TWA bs W)) := fun W g => tw_any x bs W (hx.G g) hb hl
  clear hx
  go_enter Tryd.func43, Tryd.ntmps43
  go_wp2_with fail
  refine (H1.out _ ((G.refl w).alloc _)).mono ?_
  rintro e w1 ⟨n, t, ts, rfl, hn, hrow, htw, hts, htl, hb1⟩
  have hrow1 := hrow.G hb1
  have hz1 : w.heap.size < w1.heap.size := by have := hb1.size; simp at this; omega
  have hb1' := hb1
  have hc1 : ∀ o, w1.cell? { block := w.heap.size, off := o } = [I 0, I 0, I 0, .string E0][o]? := G.cells hb1 (by simp) (by simp)
  have hf1 : ∀ o, w1.frozen? { block := w.heap.size, off := o } = false := G.frozens hb1 (by simp) (by simp)
  have HG : Hid (G w w1) := ((G.refl w).alloc _).trans hb1
  have HTW : Hid _ := htw
  clear hrow hb1 hb1' htw H1
  by_cases h1 : ts[0]? = some 1
  · have hpos := (List.getElem?_eq_some_iff.1 h1).1
    have hposi : (0 : Int) < (ts.length : Int) := by omega
    have hrow2 := hrow1
    obtain ⟨p, cap, rfl, hcap, hc⟩ := hrow1
    obtain ⟨g, o, rfl, hcell⟩ := hc 0 1 h1
    rw [Nat.add_zero] at hcell
    clear hc
    by_cases hcp : cap = 1
    · subst hcp
      obtain ⟨hl1, hrt⟩ := row_tail1 hrow2 hpos
      have H2 : Hid (∀ W, G w1 W → Calls Tryd.prog 42 #[.slice (some ⟨g, o, none⟩) 0 0] W (TWA (ts.drop 1) W)) := fun W g => tw_any _ _ W (hrt.G g) (fun d hd => hts d (List.mem_of_mem_drop hd)) (by rw [List.length_drop]; omega)
      have HH1 : Hid _ := h1
      rw [hl1]
      clear hrow2 hrt hcap h1
      go_wp2_with fail
      refine (H2.out _ (by repeat (first | exact G.refl _ | refine G.drew ?_))).mono ?_
      rintro e w2 ⟨m, t2, us, rfl, hm, _, htw2, _, _, hb2⟩
      have hz2 : w1.heap.size ≤ w2.heap.size := hb2.size
      have hc2 : ∀ o, w2.cell? { block := w.heap.size, off := o } = [I 0, I 0, I 0, .string E0][o]? := G.cells hb2 hc1 hz1
      have hf2 : ∀ o, w2.frozen? { block := w.heap.size, off := o } = false := G.frozens hb2 hf1 hz1
      have HP : Hid (GNP bs 3 n m E0) := gnp_pair HTW.out HH1.out htw2
      have HG2 : Hid (G w w2) := HG.out.trans hb2
      clear hb2 htw2 HG H2
      go_wp2
      exact bodyPost_ret (v := V 3 n m E0) (by simp [results, Tryd.results43, go_sem, hc2]) rfl ⟨3, n, m, rfl, hn, hm, HP.out, by repeat (first | exact G.refl _ | assumption | exact HG2.out | refine G.alloc ?_ _ | refine G.drew ?_ | refine G.setCell ?_ (by simp) _ | refine G.trans ?_ (by assumption))⟩
    · have hrt := row_tail hrow2 hpos hcp
      have H2 : Hid (∀ W, G w1 W → Calls Tryd.prog 42 #[.slice (some ⟨g, o + 1, none⟩) (ts.length - 1) (cap - 1)] W (TWA (ts.drop 1) W)) := fun W g => tw_any _ _ W (hrt.G g) (fun d hd => hts d (List.mem_of_mem_drop hd)) (by rw [List.length_drop]; omega)
      have HH1 : Hid _ := h1
      clear hrow2 hrt h1
      go_wp2_with fail
      refine (H2.out _ (by repeat (first | exact G.refl _ | refine G.drew ?_))).mono ?_
      rintro e w2 ⟨m, t2, us, rfl, hm, _, htw2, _, _, hb2⟩
      have hz2 : w1.heap.size ≤ w2.heap.size := hb2.size
      have hc2 : ∀ o, w2.cell? { block := w.heap.size, off := o } = [I 0, I 0, I 0, .string E0][o]? := G.cells hb2 hc1 hz1
      have hf2 : ∀ o, w2.frozen? { block := w.heap.size, off := o } = false := G.frozens hb2 hf1 hz1
      have HP : Hid (GNP bs 3 n m E0) := gnp_pair HTW.out HH1.out htw2
      have HG2 : Hid (G w w2) := HG.out.trans hb2
      clear hb2 htw2 HG H2
      go_wp2
      exact bodyPost_ret (v := V 3 n m E0) (by simp [results, Tryd.results43, go_sem, hc2]) rfl ⟨3, n, m, rfl, hn, hm, HP.out, by repeat (first | exact G.refl _ | assumption | exact HG2.out | refine G.alloc ?_ _ | refine G.drew ?_ | refine G.setCell ?_ (by simp) _ | refine G.trans ?_ (by assumption))⟩
  · have HH1 : Hid _ := h1
    have HP : Hid (GNP bs 2 n 0 E0) := gnp_whole HTW.out HH1.out
    cases h0 : ts[0]? with
    | none =>
      obtain ⟨p, cap, rfl, hcap, hc⟩ := hrow1
      have e : ts.length = 0 := by have := List.getElem?_eq_none_iff.1 h0; omega
      rw [e]
      clear hc hcap h0 h1
      go_wp2
      exact bodyPost_ret (v := V 2 n 0 E0) (by simp [results, Tryd.results43, go_sem, hc1]) rfl ⟨2, n, 0, rfl, hn, by unfold R64; omega, HP.out, by repeat (first | exact G.refl _ | assumption | exact HG.out | refine G.alloc ?_ _ | refine G.drew ?_ | refine G.setCell ?_ (by simp) _ | refine G.trans ?_ (by assumption))⟩
    | some d =>
      obtain ⟨p, cap, rfl, hcap, hc⟩ := hrow1
      obtain ⟨g, o, rfl, hcell⟩ := hc 0 d h0
      rw [Nat.add_zero] at hcell
      have hpos := (List.getElem?_eq_some_iff.1 h0).1
      have hposi : (0 : Int) < (ts.length : Int) := by omega
      have hd1 : d ≠ 1 := fun e => h1 (by rw [h0, e])
      have hdn : ((d : Int) == 1) = false := by simp; omega
      clear hc h0 h1 hd1
      go_wp2
      exact bodyPost_ret (v := V 2 n 0 E0) (by simp [results, Tryd.results43, go_sem, hc1]) rfl ⟨2, n, 0, rfl, hn, by unfold R64; omega, HP.out, by repeat (first | exact G.refl _ | assumption | exact HG.out | refine G.alloc ?_ _ | refine G.drew ?_ | refine G.setCell ?_ (by simp) _ | refine G.trans ?_ (by assumption))⟩
end Go.Proofs.YtdiikofgilplkaaDoor
