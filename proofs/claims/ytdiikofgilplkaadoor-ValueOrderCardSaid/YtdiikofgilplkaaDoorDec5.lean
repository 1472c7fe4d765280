/- value.guessOfBytes: what it gives where a value's bytes stand there. -/
import Derived.Test.YtdiikofgilplkaaDoorDec4
namespace Go.Proofs.YtdiikofgilplkaaDoor
open Go.RowKit Go.Shelf Go.PlainAid Go.Lib

theorem isE (s : ByteArray) (h : s.toList.isEmpty = true) : s = E0 := by
  have h1 : s.data.toList = [] := by
    have := List.isEmpty_iff.1 h
    rwa [ByteArray.toList_eq] at this
  cases s with
  | mk d => simp at h1; subst h1; rfl
/-- The value, where its bytes stand there. -/
def GuessP (bs : List Nat) (k a b : Int) (s : ByteArray) : Prop :=
  ∀ k0 a0 b0 s0 rest, okV k0 a0 b0 s0 = true → R64 a0 → R64 b0 → bs = encV k0 a0 b0 s0 ++ rest → k = k0 ∧ a = a0 ∧ b = b0 ∧ s = s0
theorem enc_head (k a b : Int) (s : ByteArray) (h : okV k a b s = true) (ha : R64 a) : ∃ c t, encV k a b s = c :: t ∧ ((k = 0 ∧ c = 80) ∨ (k = 1 ∧ c = 48) ∨ (k = 4 ∧ c = 32) ∨ (k = 5 ∧ c = 16) ∨ (k = 6 ∧ c = 17) ∨ ((k = 2 ∨ k = 3) ∧ 56 ≤ c ∧ c ≤ 72)) := by
  have hw : ∃ c t, encW a = c :: t ∧ 56 ≤ c ∧ c ≤ 72 := by
    have := low_len a ha.1 ha.2
    refine ⟨_, _, rfl, ?_, ?_⟩ <;> split <;> omega
  obtain ⟨c, t, hw, h1, h2⟩ := hw
  rcases okV_kindE h with rfl | rfl | rfl | rfl | rfl | rfl | rfl
  · exact ⟨80, [], rfl, by simp⟩
  · exact ⟨48, [a.toNat], rfl, by simp⟩
  · refine ⟨c, t ++ [0], ?_, by simp; omega⟩
    show encW a ++ [0] = _
    rw [hw]; rfl
  · refine ⟨c, t ++ [1] ++ encW b, ?_, by simp; omega⟩
    show (encW a ++ [1]) ++ encW b = _
    rw [hw]; simp
  · exact ⟨32, strB s s.size ++ [0, 0], rfl, by simp⟩
  · exact ⟨16, encW a, rfl, by simp⟩
  · exact ⟨17, encW a, rfl, by simp⟩
theorem head_of {bs rest : List Nat} {k a b : Int} {s : ByteArray} {d : Nat} (h : okV k a b s = true) (ha : R64 a) (he : bs = encV k a b s ++ rest) (hd : bs[0]? = some d) :
    (k = 0 ∧ d = 80) ∨ (k = 1 ∧ d = 48) ∨ (k = 4 ∧ d = 32) ∨ (k = 5 ∧ d = 16) ∨ (k = 6 ∧ d = 17) ∨ ((k = 2 ∨ k = 3) ∧ 56 ≤ d ∧ d ≤ 72) := by
  obtain ⟨c, t, h1, h2⟩ := enc_head k a b s h ha
  rw [he, h1] at hd
  cases hd
  exact h2
theorem g80 {bs : List Nat} (hd : bs[0]? = some 80) : GuessP bs 0 0 0 E0 := by
  intro k0 a0 b0 s0 rest hok ha hb he
  have hk : k0 = 0 := by have := head_of hok ha he hd; omega
  subst hk
  simp [okV, Bool.and_eq_true] at hok
  exact ⟨rfl, hok.1.1.symm, hok.1.2.symm, (isE s0 (List.isEmpty_iff.2 hok.2)).symm⟩
theorem g48 {bs : List Nat} (hd : bs[0]? = some 48) : GuessP bs 1 (if (bs.drop 1)[0]? = some 1 then 1 else 0) 0 E0 := by
  intro k0 a0 b0 s0 rest hok ha hb he
  have hk : k0 = 1 := by have := head_of hok ha he hd; omega
  subst hk
  have he' : bs = 48 :: a0.toNat :: rest := he
  simp [okV, Bool.and_eq_true] at hok
  refine ⟨rfl, ?_, hok.1.2.symm, (isE s0 (List.isEmpty_iff.2 hok.2)).symm⟩
  rw [he']
  rcases hok.1.1 with rfl | rfl <;> simp
theorem g32 {bs : List Nat} {s : ByteArray} (hd : bs[0]? = some 32) (h : TSP (bs.drop 1) s) : GuessP bs 4 0 0 s := by
  intro k0 a0 b0 s0 rest hok ha hb he
  have hk : k0 = 4 := by have := head_of hok ha he hd; omega
  subst hk
  have he' : bs = 32 :: (strB s0 s0.size ++ (0 :: 0 :: rest)) := by rw [he]; simp [encV]
  simp [okV, Bool.and_eq_true] at hok
  exact ⟨rfl, hok.1.1.1.symm, hok.1.1.2.symm, h s0 rest hok.1.2 (by rw [he']; rfl)⟩
theorem gid {bs ts : List Nat} {n : Int} {c : Nat} {k : Int} (hck : (c = 16 ∧ k = 5) ∨ (c = 17 ∧ k = 6)) (hd : bs[0]? = some c) (h : TWP (bs.drop 1) n ts) : GuessP bs k n 0 E0 := by
  intro k0 a0 b0 s0 rest hok ha hb he
  have hk : k0 = k := by have := head_of hok ha he hd; omega
  subst hk
  have he' : bs = c :: (encW a0 ++ rest) := by
    rcases hck with ⟨rfl, rfl⟩ | ⟨rfl, rfl⟩ <;> rw [he] <;> simp [encV]
  have hok' : b0 = 0 ∧ s0 = E0 := by
    rcases hck with ⟨rfl, rfl⟩ | ⟨rfl, rfl⟩ <;> (simp [okV, Bool.and_eq_true] at hok; exact ⟨hok.1.2, isE s0 (List.isEmpty_iff.2 hok.2)⟩)
  exact ⟨rfl, (h a0 rest ha (by rw [he']; rfl)).1, hok'.1.symm, hok'.2.symm⟩
theorem gnum {bs : List Nat} {k a b : Int} {d : Nat} (hd : bs[0]? = some d) (hne : d ≠ 80 ∧ d ≠ 48 ∧ d ≠ 32 ∧ d ≠ 16 ∧ d ≠ 17) (h : GNP bs k a b E0) : GuessP bs k a b E0 := by
  intro k0 a0 b0 s0 rest hok ha hb he
  have hk : k0 = 2 ∨ k0 = 3 := by have := head_of hok ha he hd; omega
  rcases hk with rfl | rfl
  · simp [okV, Bool.and_eq_true] at hok
    obtain ⟨h1, h2, h3, _⟩ := h.1 a0 rest ha he
    exact ⟨h1, h2, by rw [h3, hok.1], (isE s0 (List.isEmpty_iff.2 hok.2)).symm⟩
  · simp [okV, Bool.and_eq_true] at hok
    obtain ⟨h1, h2, h3, _⟩ := h.2 a0 b0 rest ha hb he
    exact ⟨h1, h2, h3, (isE s0 (List.isEmpty_iff.2 hok.2)).symm⟩
theorem gnil {bs : List Nat} (hd : bs.length = 0) : GuessP bs 0 0 0 E0 := by
  intro k0 a0 b0 s0 rest hok ha hb he
  obtain ⟨c, t, h1, _⟩ := enc_head k0 a0 b0 s0 hok ha
  rw [he, h1] at hd
  simp at hd
theorem strN_size (xs : List Nat) : (strN xs).size = xs.length := by
  have e : (strN xs).toList = bytesOf (xs.map fun d : Nat => (d : Int)) := strOfNums_toList _
  have h2 : (strN xs).toList.length = (strN xs).size := by rw [ByteArray.toList_eq]; simp
  rw [← h2, e]; simp [bytesOf]
/-- What a guess answers. -/
def GBA (bs : List Nat) (w : World) (e : Ending) (w' : World) : Prop := ∃ (k a b : Int) (s : ByteArray), e = .returned (V k a b s) ∧ R64 a ∧ R64 b ∧ s.size ≤ 4611686018427387904 ∧ GuessP bs k a b s ∧ G w w'
theorem R0 : R64 0 := by unfold R64; omega
set_option maxRecDepth 100000 in
set_option maxHeartbeats 8000000 in
theorem gb_nil (p : Option Addr) (cap : Nat) (bs : List Nat) (w : World) (h0 : bs.length = 0) : Calls Tryd.prog 28 #[.slice p bs.length cap] w (GBA bs w) := by
  have HP : Hid (GuessP bs 0 0 0 E0) := gnil h0
  rw [h0]
  go_enter Tryd.func28, Tryd.ntmps28
  go_wp2
  exact bodyPost_ret (v := V 0 0 0 E0) (by simp [results, Tryd.results28, go_sem]) rfl ⟨0, 0, 0, E0, rfl, R0, R0, by decide, HP.out, by repeat (first | exact G.refl _ | assumption | refine G.alloc ?_ _ | refine G.drew ?_ | refine G.setCell ?_ (by simp) _)⟩
set_option maxRecDepth 100000 in
set_option maxHeartbeats 8000000 in
theorem gb_80 (g o cap : Nat) (bs : List Nat) (w : World) (_hcap : bs.length ≤ cap) (_hb : ∀ d ∈ bs, d < 256) (_hl : bs.length ≤ 140737488355328) (hlen : 0 < bs.length) (hrow : RowB w (.slice (some ⟨g, o, none⟩) bs.length cap) bs) (hd : bs[0]? = some 80) : Calls Tryd.prog 28 #[.slice (some ⟨g, o, none⟩) bs.length cap] w (GBA bs w) := by
  have HP : Hid (GuessP bs 0 0 0 E0) := g80 hd
  have hne : ((bs.length : Int) == 0) = false := beq_false_of_ne (by omega)
  have hlti : (0 : Int) < (bs.length : Int) := by omega
  have hcell : w.cell? ⟨g, o, none⟩ = some (bv 80) := by
    obtain ⟨p, cap', he, _, hc⟩ := hrow
    cases he
    obtain ⟨g', o', h1, h2⟩ := hc 0 80 hd
    cases h1; exact h2
  have hgz : g < w.heap.size := cell_ltE hcell
  clear hrow hd _hb
  go_enter Tryd.func28, Tryd.ntmps28
  go_wp2
  exact bodyPost_ret (v := V 0 0 0 E0) (by simp [results, Tryd.results28, go_sem]) rfl ⟨0, 0, 0, E0, rfl, R0, R0, by decide, HP.out, by repeat (first | exact G.refl _ | assumption | refine G.alloc ?_ _ | refine G.drew ?_ | refine G.setCell ?_ (by simp) _)⟩
set_option maxRecDepth 100000 in
set_option maxHeartbeats 8000000 in
theorem gb_48a (g o : Nat) (bs : List Nat) (w : World) (_hb : ∀ d ∈ bs, d < 256) (_hl : bs.length ≤ 140737488355328) (hlen : 0 < bs.length) (hrow : RowB w (.slice (some ⟨g, o, none⟩) bs.length 1) bs) (hd : bs[0]? = some 48) : Calls Tryd.prog 28 #[.slice (some ⟨g, o, none⟩) bs.length 1] w (GBA bs w) := by
  obtain ⟨hl1, hrt⟩ := row_tail1 hrow hlen
  have hne : ((bs.length : Int) == 0) = false := beq_false_of_ne (by omega)
  have hlti : (0 : Int) < (bs.length : Int) := by omega
  have hcell : w.cell? ⟨g, o, none⟩ = some (bv 48) := by
    obtain ⟨p, cap', he, _, hc⟩ := hrow
    cases he
    obtain ⟨g', o', h1, h2⟩ := hc 0 48 hd
    cases h1; exact h2
  have hgz : g < w.heap.size := cell_ltE hcell
  have hbt : ∀ d ∈ bs.drop 1, d < 256 := fun d hd => _hb d (List.mem_of_mem_drop hd)
  have hlt : (bs.drop 1).length ≤ 140737488355328 := by rw [List.length_drop]; omega
  have hlt' : (bs.drop 1).length ≤ bs.length := by rw [List.length_drop]; omega
  have H1 : Hid (∀ W, G w W → Calls Tryd.prog 40 #[.slice (some ⟨g, o, none⟩) 0 0] W fun e w' => e = .returned (V 1 (if (bs.drop 1)[0]? = some 1 then 1 else 0) 0 E0) ∧ G W w') := fun W g => gbo_any _ _ W (hrt.G g) hlt
  have HD : Hid _ := hd
  obtain ⟨q, hq⟩ : ∃ q : Int, q = if (bs.drop 1)[0]? = some 1 then 1 else 0 := ⟨_, rfl⟩
  rw [← hq] at H1
  have HQ : Hid (GuessP bs 1 q 0 E0) := by rw [hq]; exact g48 hd
  have hqr : R64 q := by rw [hq]; split <;> (unfold R64; omega)
  have HQR : Hid (R64 q) := hqr
  clear hq hqr
  rw [hl1]
  clear hrow hrt hd _hb hbt hlt
  go_enter Tryd.func28, Tryd.ntmps28
  go_wp2_with fail
  refine (H1.out _ ((G.refl w).alloc _)).mono ?_
  rintro e w1 ⟨rfl, hb1⟩
  have hc1 : ∀ o, w1.cell? { block := w.heap.size, off := o } = [I 0, I 0, I 0, .string E0][o]? := G.cells hb1 (by simp) (by simp)
  have hf1 : ∀ o, w1.frozen? { block := w.heap.size, off := o } = false := G.frozens hb1 (by simp) (by simp)
  have HG : Hid (G w w1) := ((G.refl w).alloc _).trans hb1
  have HP : Hid (GuessP bs 1 (q) 0 E0) := HQ.out
  clear hb1 H1
  go_wp2
  exact bodyPost_ret (v := V 1 (q) 0 E0) (by simp [results, Tryd.results28, go_sem, hc1]) rfl ⟨1, q, 0, E0, rfl, HQR.out, R0, by decide, HP.out, by repeat (first | exact G.refl _ | assumption | exact HG.out | refine G.alloc ?_ _ | refine G.drew ?_ | refine G.setCell ?_ (by simp) _)⟩
set_option maxRecDepth 100000 in
set_option maxHeartbeats 8000000 in
theorem gb_32a (g o : Nat) (bs : List Nat) (w : World) (_hb : ∀ d ∈ bs, d < 256) (_hl : bs.length ≤ 140737488355328) (hlen : 0 < bs.length) (hrow : RowB w (.slice (some ⟨g, o, none⟩) bs.length 1) bs) (hd : bs[0]? = some 32) : Calls Tryd.prog 28 #[.slice (some ⟨g, o, none⟩) bs.length 1] w (GBA bs w) := by
  obtain ⟨hl1, hrt⟩ := row_tail1 hrow hlen
  have hne : ((bs.length : Int) == 0) = false := beq_false_of_ne (by omega)
  have hlti : (0 : Int) < (bs.length : Int) := by omega
  have hcell : w.cell? ⟨g, o, none⟩ = some (bv 32) := by
    obtain ⟨p, cap', he, _, hc⟩ := hrow
    cases he
    obtain ⟨g', o', h1, h2⟩ := hc 0 32 hd
    cases h1; exact h2
  have hgz : g < w.heap.size := cell_ltE hcell
  have hbt : ∀ d ∈ bs.drop 1, d < 256 := fun d hd => _hb d (List.mem_of_mem_drop hd)
  have hlt : (bs.drop 1).length ≤ 140737488355328 := by rw [List.length_drop]; omega
  have hlt' : (bs.drop 1).length ≤ bs.length := by rw [List.length_drop]; omega
  have H1 : Hid (∀ W, G w W → Calls Tryd.prog 41 #[.slice (some ⟨g, o, none⟩) 0 0] W fun e w' => ∃ xs, e = .returned (.string (strN xs)) ∧ xs.length ≤ 32 ∧ TSP (bs.drop 1) (strN xs) ∧ G W w') := fun W g => ts_any _ _ W (hrt.G g) hlt
  have HD : Hid _ := hd
  rw [hl1]
  clear hrow hrt hd _hb hbt hlt
  go_enter Tryd.func28, Tryd.ntmps28
  go_wp2_with fail
  refine (H1.out _ ((G.refl w).alloc _)).mono ?_
  rintro e w1 ⟨xs, rfl, hx32, htp, hb1⟩
  have hc1 : ∀ o, w1.cell? { block := w.heap.size, off := o } = [I 0, I 0, I 0, .string E0][o]? := G.cells hb1 (by simp) (by simp)
  have hf1 : ∀ o, w1.frozen? { block := w.heap.size, off := o } = false := G.frozens hb1 (by simp) (by simp)
  have HG : Hid (G w w1) := ((G.refl w).alloc _).trans hb1
  have HP : Hid (GuessP bs 4 (0) 0 (strN xs)) := g32 HD.out htp
  clear hb1 H1
  go_wp2
  exact bodyPost_ret (v := V 4 (0) 0 (strN xs)) (by simp [results, Tryd.results28, go_sem, hc1]) rfl ⟨4, 0, 0, (strN xs), rfl, R0, R0, by rw [strN_size]; omega, HP.out, by repeat (first | exact G.refl _ | assumption | exact HG.out | refine G.alloc ?_ _ | refine G.drew ?_ | refine G.setCell ?_ (by simp) _)⟩
set_option maxRecDepth 100000 in
set_option maxHeartbeats 8000000 in
theorem gb_16a (g o : Nat) (bs : List Nat) (w : World) (_hb : ∀ d ∈ bs, d < 256) (_hl : bs.length ≤ 140737488355328) (hlen : 0 < bs.length) (hrow : RowB w (.slice (some ⟨g, o, none⟩) bs.length 1) bs) (hd : bs[0]? = some 16) : Calls Tryd.prog 28 #[.slice (some ⟨g, o, none⟩) bs.length 1] w (GBA bs w) := by
  obtain ⟨hl1, hrt⟩ := row_tail1 hrow hlen
  have hne : ((bs.length : Int) == 0) = false := beq_false_of_ne (by omega)
  have hlti : (0 : Int) < (bs.length : Int) := by omega
  have hcell : w.cell? ⟨g, o, none⟩ = some (bv 16) := by
    obtain ⟨p, cap', he, _, hc⟩ := hrow
    cases he
    obtain ⟨g', o', h1, h2⟩ := hc 0 16 hd
    cases h1; exact h2
  have hgz : g < w.heap.size := cell_ltE hcell
  have hbt : ∀ d ∈ bs.drop 1, d < 256 := fun d hd => _hb d (List.mem_of_mem_drop hd)
  have hlt : (bs.drop 1).length ≤ 140737488355328 := by rw [List.length_drop]; omega
  have hlt' : (bs.drop 1).length ≤ bs.length := by rw [List.length_drop]; omega
  have H1 : Hid (∀ W, G w W → Calls Tryd.prog 42 #[.slice (some ⟨g, o, none⟩) 0 0] W (TWA (bs.drop 1) W)) := fun W g => tw_any _ _ W (hrt.G g) hbt hlt
  have HD : Hid _ := hd
  rw [hl1]
  clear hrow hrt hd _hb hbt hlt
  go_enter Tryd.func28, Tryd.ntmps28
  go_wp2_with fail
  refine (H1.out _ ((G.refl w).alloc _)).mono ?_
  rintro e w1 ⟨n, t, us, rfl, hn, _, htw, _, _, hb1⟩
  have hc1 : ∀ o, w1.cell? { block := w.heap.size, off := o } = [I 0, I 0, I 0, .string E0][o]? := G.cells hb1 (by simp) (by simp)
  have hf1 : ∀ o, w1.frozen? { block := w.heap.size, off := o } = false := G.frozens hb1 (by simp) (by simp)
  have HG : Hid (G w w1) := ((G.refl w).alloc _).trans hb1
  have HP : Hid (GuessP bs 5 (n) 0 E0) := gid (by omega) HD.out htw
  clear hb1 H1
  go_wp2
  exact bodyPost_ret (v := V 5 (n) 0 E0) (by simp [results, Tryd.results28, go_sem, hc1]) rfl ⟨5, n, 0, E0, rfl, hn, R0, by decide, HP.out, by repeat (first | exact G.refl _ | assumption | exact HG.out | refine G.alloc ?_ _ | refine G.drew ?_ | refine G.setCell ?_ (by simp) _)⟩
set_option maxRecDepth 100000 in
set_option maxHeartbeats 8000000 in
theorem gb_17a (g o : Nat) (bs : List Nat) (w : World) (_hb : ∀ d ∈ bs, d < 256) (_hl : bs.length ≤ 140737488355328) (hlen : 0 < bs.length) (hrow : RowB w (.slice (some ⟨g, o, none⟩) bs.length 1) bs) (hd : bs[0]? = some 17) : Calls Tryd.prog 28 #[.slice (some ⟨g, o, none⟩) bs.length 1] w (GBA bs w) := by
  obtain ⟨hl1, hrt⟩ := row_tail1 hrow hlen
  have hne : ((bs.length : Int) == 0) = false := beq_false_of_ne (by omega)
  have hlti : (0 : Int) < (bs.length : Int) := by omega
  have hcell : w.cell? ⟨g, o, none⟩ = some (bv 17) := by
    obtain ⟨p, cap', he, _, hc⟩ := hrow
    cases he
    obtain ⟨g', o', h1, h2⟩ := hc 0 17 hd
    cases h1; exact h2
  have hgz : g < w.heap.size := cell_ltE hcell
  have hbt : ∀ d ∈ bs.drop 1, d < 256 := fun d hd => _hb d (List.mem_of_mem_drop hd)
  have hlt : (bs.drop 1).length ≤ 140737488355328 := by rw [List.length_drop]; omega
  have hlt' : (bs.drop 1).length ≤ bs.length := by rw [List.length_drop]; omega
  have H1 : Hid (∀ W, G w W → Calls Tryd.prog 42 #[.slice (some ⟨g, o, none⟩) 0 0] W (TWA (bs.drop 1) W)) := fun W g => tw_any _ _ W (hrt.G g) hbt hlt
  have HD : Hid _ := hd
  rw [hl1]
  clear hrow hrt hd _hb hbt hlt
  go_enter Tryd.func28, Tryd.ntmps28
  go_wp2_with fail
  refine (H1.out _ ((G.refl w).alloc _)).mono ?_
  rintro e w1 ⟨n, t, us, rfl, hn, _, htw, _, _, hb1⟩
  have hc1 : ∀ o, w1.cell? { block := w.heap.size, off := o } = [I 0, I 0, I 0, .string E0][o]? := G.cells hb1 (by simp) (by simp)
  have hf1 : ∀ o, w1.frozen? { block := w.heap.size, off := o } = false := G.frozens hb1 (by simp) (by simp)
  have HG : Hid (G w w1) := ((G.refl w).alloc _).trans hb1
  have HP : Hid (GuessP bs 6 (n) 0 E0) := gid (by omega) HD.out htw
  clear hb1 H1
  go_wp2
  exact bodyPost_ret (v := V 6 (n) 0 E0) (by simp [results, Tryd.results28, go_sem, hc1]) rfl ⟨6, n, 0, E0, rfl, hn, R0, by decide, HP.out, by repeat (first | exact G.refl _ | assumption | exact HG.out | refine G.alloc ?_ _ | refine G.drew ?_ | refine G.setCell ?_ (by simp) _)⟩
set_option maxRecDepth 100000 in
set_option maxHeartbeats 8000000 in
theorem gb_48b (g o cap : Nat) (bs : List Nat) (w : World) (_hcap : bs.length ≤ cap) (_hb : ∀ d ∈ bs, d < 256) (_hl : bs.length ≤ 140737488355328) (hlen : 0 < bs.length) (hrow : RowB w (.slice (some ⟨g, o, none⟩) bs.length cap) bs) (hcp : ¬ cap = 1) (hd : bs[0]? = some 48) : Calls Tryd.prog 28 #[.slice (some ⟨g, o, none⟩) bs.length cap] w (GBA bs w) := by
  have hrt := row_tail hrow hlen hcp
  have hne : ((bs.length : Int) == 0) = false := beq_false_of_ne (by omega)
  have hlti : (0 : Int) < (bs.length : Int) := by omega
  have hcell : w.cell? ⟨g, o, none⟩ = some (bv 48) := by
    obtain ⟨p, cap', he, _, hc⟩ := hrow
    cases he
    obtain ⟨g', o', h1, h2⟩ := hc 0 48 hd
    cases h1; exact h2
  have hgz : g < w.heap.size := cell_ltE hcell
  have hbt : ∀ d ∈ bs.drop 1, d < 256 := fun d hd => _hb d (List.mem_of_mem_drop hd)
  have hlt : (bs.drop 1).length ≤ 140737488355328 := by rw [List.length_drop]; omega
  have hlt' : (bs.drop 1).length ≤ bs.length := by rw [List.length_drop]; omega
  have H1 : Hid (∀ W, G w W → Calls Tryd.prog 40 #[.slice (some ⟨g, o + 1, none⟩) (bs.length - 1) (cap - 1)] W fun e w' => e = .returned (V 1 (if (bs.drop 1)[0]? = some 1 then 1 else 0) 0 E0) ∧ G W w') := fun W g => gbo_any _ _ W (hrt.G g) hlt
  have HD : Hid _ := hd
  obtain ⟨q, hq⟩ : ∃ q : Int, q = if (bs.drop 1)[0]? = some 1 then 1 else 0 := ⟨_, rfl⟩
  rw [← hq] at H1
  have HQ : Hid (GuessP bs 1 q 0 E0) := by rw [hq]; exact g48 hd
  have hqr : R64 q := by rw [hq]; split <;> (unfold R64; omega)
  have HQR : Hid (R64 q) := hqr
  clear hq hqr
  clear hrow hrt hd _hb hbt hlt
  go_enter Tryd.func28, Tryd.ntmps28
  go_wp2_with fail
  refine (H1.out _ ((G.refl w).alloc _)).mono ?_
  rintro e w1 ⟨rfl, hb1⟩
  have hc1 : ∀ o, w1.cell? { block := w.heap.size, off := o } = [I 0, I 0, I 0, .string E0][o]? := G.cells hb1 (by simp) (by simp)
  have hf1 : ∀ o, w1.frozen? { block := w.heap.size, off := o } = false := G.frozens hb1 (by simp) (by simp)
  have HG : Hid (G w w1) := ((G.refl w).alloc _).trans hb1
  have HP : Hid (GuessP bs 1 (q) 0 E0) := HQ.out
  clear hb1 H1
  go_wp2
  exact bodyPost_ret (v := V 1 (q) 0 E0) (by simp [results, Tryd.results28, go_sem, hc1]) rfl ⟨1, q, 0, E0, rfl, HQR.out, R0, by decide, HP.out, by repeat (first | exact G.refl _ | assumption | exact HG.out | refine G.alloc ?_ _ | refine G.drew ?_ | refine G.setCell ?_ (by simp) _)⟩
set_option maxRecDepth 100000 in
set_option maxHeartbeats 8000000 in
theorem gb_32b (g o cap : Nat) (bs : List Nat) (w : World) (_hcap : bs.length ≤ cap) (_hb : ∀ d ∈ bs, d < 256) (_hl : bs.length ≤ 140737488355328) (hlen : 0 < bs.length) (hrow : RowB w (.slice (some ⟨g, o, none⟩) bs.length cap) bs) (hcp : ¬ cap = 1) (hd : bs[0]? = some 32) : Calls Tryd.prog 28 #[.slice (some ⟨g, o, none⟩) bs.length cap] w (GBA bs w) := by
  have hrt := row_tail hrow hlen hcp
  have hne : ((bs.length : Int) == 0) = false := beq_false_of_ne (by omega)
  have hlti : (0 : Int) < (bs.length : Int) := by omega
  have hcell : w.cell? ⟨g, o, none⟩ = some (bv 32) := by
    obtain ⟨p, cap', he, _, hc⟩ := hrow
    cases he
    obtain ⟨g', o', h1, h2⟩ := hc 0 32 hd
    cases h1; exact h2
  have hgz : g < w.heap.size := cell_ltE hcell
  have hbt : ∀ d ∈ bs.drop 1, d < 256 := fun d hd => _hb d (List.mem_of_mem_drop hd)
  have hlt : (bs.drop 1).length ≤ 140737488355328 := by rw [List.length_drop]; omega
  have hlt' : (bs.drop 1).length ≤ bs.length := by rw [List.length_drop]; omega
  have H1 : Hid (∀ W, G w W → Calls Tryd.prog 41 #[.slice (some ⟨g, o + 1, none⟩) (bs.length - 1) (cap - 1)] W fun e w' => ∃ xs, e = .returned (.string (strN xs)) ∧ xs.length ≤ 32 ∧ TSP (bs.drop 1) (strN xs) ∧ G W w') := fun W g => ts_any _ _ W (hrt.G g) hlt
  have HD : Hid _ := hd
  clear hrow hrt hd _hb hbt hlt
  go_enter Tryd.func28, Tryd.ntmps28
  go_wp2_with fail
  refine (H1.out _ ((G.refl w).alloc _)).mono ?_
  rintro e w1 ⟨xs, rfl, hx32, htp, hb1⟩
  have hc1 : ∀ o, w1.cell? { block := w.heap.size, off := o } = [I 0, I 0, I 0, .string E0][o]? := G.cells hb1 (by simp) (by simp)
  have hf1 : ∀ o, w1.frozen? { block := w.heap.size, off := o } = false := G.frozens hb1 (by simp) (by simp)
  have HG : Hid (G w w1) := ((G.refl w).alloc _).trans hb1
  have HP : Hid (GuessP bs 4 (0) 0 (strN xs)) := g32 HD.out htp
  clear hb1 H1
  go_wp2
  exact bodyPost_ret (v := V 4 (0) 0 (strN xs)) (by simp [results, Tryd.results28, go_sem, hc1]) rfl ⟨4, 0, 0, (strN xs), rfl, R0, R0, by rw [strN_size]; omega, HP.out, by repeat (first | exact G.refl _ | assumption | exact HG.out | refine G.alloc ?_ _ | refine G.drew ?_ | refine G.setCell ?_ (by simp) _)⟩
set_option maxRecDepth 100000 in
set_option maxHeartbeats 8000000 in
theorem gb_16b (g o cap : Nat) (bs : List Nat) (w : World) (_hcap : bs.length ≤ cap) (_hb : ∀ d ∈ bs, d < 256) (_hl : bs.length ≤ 140737488355328) (hlen : 0 < bs.length) (hrow : RowB w (.slice (some ⟨g, o, none⟩) bs.length cap) bs) (hcp : ¬ cap = 1) (hd : bs[0]? = some 16) : Calls Tryd.prog 28 #[.slice (some ⟨g, o, none⟩) bs.length cap] w (GBA bs w) := by
  have hrt := row_tail hrow hlen hcp
  have hne : ((bs.length : Int) == 0) = false := beq_false_of_ne (by omega)
  have hlti : (0 : Int) < (bs.length : Int) := by omega
  have hcell : w.cell? ⟨g, o, none⟩ = some (bv 16) := by
    obtain ⟨p, cap', he, _, hc⟩ := hrow
    cases he
    obtain ⟨g', o', h1, h2⟩ := hc 0 16 hd
    cases h1; exact h2
  have hgz : g < w.heap.size := cell_ltE hcell
  have hbt : ∀ d ∈ bs.drop 1, d < 256 := fun d hd => _hb d (List.mem_of_mem_drop hd)
  have hlt : (bs.drop 1).length ≤ 140737488355328 := by rw [List.length_drop]; omega
  have hlt' : (bs.drop 1).length ≤ bs.length := by rw [List.length_drop]; omega
  have H1 : Hid (∀ W, G w W → Calls Tryd.prog 42 #[.slice (some ⟨g, o + 1, none⟩) (bs.length - 1) (cap - 1)] W (TWA (bs.drop 1) W)) := fun W g => tw_any _ _ W (hrt.G g) hbt hlt
  have HD : Hid _ := hd
  clear hrow hrt hd _hb hbt hlt
  go_enter Tryd.func28, Tryd.ntmps28
  go_wp2_with fail
  refine (H1.out _ ((G.refl w).alloc _)).mono ?_
  rintro e w1 ⟨n, t, us, rfl, hn, _, htw, _, _, hb1⟩
  have hc1 : ∀ o, w1.cell? { block := w.heap.size, off := o } = [I 0, I 0, I 0, .string E0][o]? := G.cells hb1 (by simp) (by simp)
  have hf1 : ∀ o, w1.frozen? { block := w.heap.size, off := o } = false := G.frozens hb1 (by simp) (by simp)
  have HG : Hid (G w w1) := ((G.refl w).alloc _).trans hb1
  have HP : Hid (GuessP bs 5 (n) 0 E0) := gid (by omega) HD.out htw
  clear hb1 H1
  go_wp2
  exact bodyPost_ret (v := V 5 (n) 0 E0) (by simp [results, Tryd.results28, go_sem, hc1]) rfl ⟨5, n, 0, E0, rfl, hn, R0, by decide, HP.out, by repeat (first | exact G.refl _ | assumption | exact HG.out | refine G.alloc ?_ _ | refine G.drew ?_ | refine G.setCell ?_ (by simp) _)⟩
set_option maxRecDepth 100000 in
set_option maxHeartbeats 8000000 in
theorem gb_17b (g o cap : Nat) (bs : List Nat) (w : World) (_hcap : bs.length ≤ cap) (_hb : ∀ d ∈ bs, d < 256) (_hl : bs.length ≤ 140737488355328) (hlen : 0 < bs.length) (hrow : RowB w (.slice (some ⟨g, o, none⟩) bs.length cap) bs) (hcp : ¬ cap = 1) (hd : bs[0]? = some 17) : Calls Tryd.prog 28 #[.slice (some ⟨g, o, none⟩) bs.length cap] w (GBA bs w) := by
  have hrt := row_tail hrow hlen hcp
  have hne : ((bs.length : Int) == 0) = false := beq_false_of_ne (by omega)
  have hlti : (0 : Int) < (bs.length : Int) := by omega
  have hcell : w.cell? ⟨g, o, none⟩ = some (bv 17) := by
    obtain ⟨p, cap', he, _, hc⟩ := hrow
    cases he
    obtain ⟨g', o', h1, h2⟩ := hc 0 17 hd
    cases h1; exact h2
  have hgz : g < w.heap.size := cell_ltE hcell
  have hbt : ∀ d ∈ bs.drop 1, d < 256 := fun d hd => _hb d (List.mem_of_mem_drop hd)
  have hlt : (bs.drop 1).length ≤ 140737488355328 := by rw [List.length_drop]; omega
  have hlt' : (bs.drop 1).length ≤ bs.length := by rw [List.length_drop]; omega
  have H1 : Hid (∀ W, G w W → Calls Tryd.prog 42 #[.slice (some ⟨g, o + 1, none⟩) (bs.length - 1) (cap - 1)] W (TWA (bs.drop 1) W)) := fun W g => tw_any _ _ W (hrt.G g) hbt hlt
  have HD : Hid _ := hd
  clear hrow hrt hd _hb hbt hlt
  go_enter Tryd.func28, Tryd.ntmps28
  go_wp2_with fail
  refine (H1.out _ ((G.refl w).alloc _)).mono ?_
  rintro e w1 ⟨n, t, us, rfl, hn, _, htw, _, _, hb1⟩
  have hc1 : ∀ o, w1.cell? { block := w.heap.size, off := o } = [I 0, I 0, I 0, .string E0][o]? := G.cells hb1 (by simp) (by simp)
  have hf1 : ∀ o, w1.frozen? { block := w.heap.size, off := o } = false := G.frozens hb1 (by simp) (by simp)
  have HG : Hid (G w w1) := ((G.refl w).alloc _).trans hb1
  have HP : Hid (GuessP bs 6 (n) 0 E0) := gid (by omega) HD.out htw
  clear hb1 H1
  go_wp2
  exact bodyPost_ret (v := V 6 (n) 0 E0) (by simp [results, Tryd.results28, go_sem, hc1]) rfl ⟨6, n, 0, E0, rfl, hn, R0, by decide, HP.out, by repeat (first | exact G.refl _ | assumption | exact HG.out | refine G.alloc ?_ _ | refine G.drew ?_ | refine G.setCell ?_ (by simp) _)⟩
set_option maxRecDepth 100000 in
set_option maxHeartbeats 8000000 in
theorem gb_num (g o cap : Nat) (bs : List Nat) (w : World) (_hcap : bs.length ≤ cap) (_hb : ∀ d ∈ bs, d < 256) (_hl : bs.length ≤ 140737488355328) (hlen : 0 < bs.length) (hrow : RowB w (.slice (some ⟨g, o, none⟩) bs.length cap) bs) (d : Nat) (hd : bs[0]? = some d) (hne' : d ≠ 80 ∧ d ≠ 48 ∧ d ≠ 32 ∧ d ≠ 16 ∧ d ≠ 17) : Calls Tryd.prog 28 #[.slice (some ⟨g, o, none⟩) bs.length cap] w (GBA bs w) := by
  have hne : ((bs.length : Int) == 0) = false := beq_false_of_ne (by omega)
  have hlti : (0 : Int) < (bs.length : Int) := by omega
  have hcell : w.cell? ⟨g, o, none⟩ = some (bv d) := by
    obtain ⟨p, cap', he, _, hc⟩ := hrow
    cases he
    obtain ⟨g', o', h1, h2⟩ := hc 0 d hd
    cases h1; exact h2
  have hgz : g < w.heap.size := cell_ltE hcell
  have n1 : ((d : Int) == 80) = false := by simp; omega
  have n2 : ((d : Int) == 48) = false := by simp; omega
  have n3 : ((d : Int) == 32) = false := by simp; omega
  have n4 : ((d : Int) == 16) = false := by simp; omega
  have n5 : ((d : Int) == 17) = false := by simp; omega
  have H1 : Hid (∀ W, G w W → Calls Tryd.prog 43 #[.slice (some ⟨g, o, none⟩) bs.length cap] W (GNA bs W)) := fun W g => gn_any _ _ W (hrow.G g) _hb _hl
  have HD : Hid _ := hd
  have HN : Hid _ := hne'
  clear hrow hd _hb hne'
  go_enter Tryd.func28, Tryd.ntmps28
  go_wp2_with fail
  refine (H1.out _ ((G.refl w).alloc _)).mono ?_
  rintro e w1 ⟨k, a, b, rfl, ha, hb2, hp, hb1⟩
  have hc1 : ∀ o, w1.cell? { block := w.heap.size, off := o } = [I 0, I 0, I 0, .string E0][o]? := G.cells hb1 (by simp) (by simp)
  have hf1 : ∀ o, w1.frozen? { block := w.heap.size, off := o } = false := G.frozens hb1 (by simp) (by simp)
  have HG : Hid (G w w1) := ((G.refl w).alloc _).trans hb1
  have HP : Hid (GuessP bs k a b E0) := gnum HD.out HN.out hp
  clear hb1 H1 hp
  go_wp2
  exact bodyPost_ret (v := V k a b E0) (by simp [results, Tryd.results28, go_sem, hc1]) rfl ⟨k, a, b, E0, rfl, ha, hb2, by decide, HP.out, by repeat (first | exact G.refl _ | assumption | exact HG.out | refine G.alloc ?_ _ | refine G.drew ?_ | refine G.setCell ?_ (by simp) _)⟩
/-- guessOfBytes at every row. -/
theorem gb_any (x : Value) (bs : List Nat) (w : World) (hx : RowB w x bs) (hb : ∀ d ∈ bs, d < 256) (hl : bs.length ≤ 140737488355328) : Calls Tryd.prog 28 #[x] w (GBA bs w) := by
  have hrow := hx
  obtain ⟨p, cap, rfl, hcap, hc⟩ := hx
  by_cases h0 : bs.length = 0
  · exact gb_nil p cap bs w h0
  obtain ⟨d, hd⟩ : ∃ d0, bs[0]? = some d0 := ⟨_, List.getElem?_eq_getElem (by omega)⟩
  obtain ⟨g, o, rfl, hcell⟩ := hc 0 d hd
  by_cases h80 : d = 80
  · subst h80; exact gb_80 g o cap bs w hcap hb hl (by omega) hrow hd
  by_cases h48 : d = 48
  · subst h48
    by_cases hcp : cap = 1
    · subst hcp; exact gb_48a g o bs w hb hl (by omega) hrow hd
    · exact gb_48b g o cap bs w hcap hb hl (by omega) hrow hcp hd
  by_cases h32 : d = 32
  · subst h32
    by_cases hcp : cap = 1
    · subst hcp; exact gb_32a g o bs w hb hl (by omega) hrow hd
    · exact gb_32b g o cap bs w hcap hb hl (by omega) hrow hcp hd
  by_cases h16 : d = 16
  · subst h16
    by_cases hcp : cap = 1
    · subst hcp; exact gb_16a g o bs w hb hl (by omega) hrow hd
    · exact gb_16b g o cap bs w hcap hb hl (by omega) hrow hcp hd
  by_cases h17 : d = 17
  · subst h17
    by_cases hcp : cap = 1
    · subst hcp; exact gb_17a g o bs w hb hl (by omega) hrow hd
    · exact gb_17b g o cap bs w hcap hb hl (by omega) hrow hcp hd
  exact gb_num g o cap bs w hcap hb hl (by omega) hrow d hd ⟨h80, h48, h32, h16, h17⟩
end Go.Proofs.YtdiikofgilplkaaDoor
