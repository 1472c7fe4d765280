/- trellisref1.reads: what it gives where a value's bytes stand there. -/
import Derived.Test.YtficmpaeochcgaaGreatDoorDec5
import Derived.Test.YtficmpaeochcgaaGreatDoorDec7
namespace Go.Proofs.YtficmpaeochcgaaGreatDoor
open Go.RowKit Go.Shelf Go.PlainAid Go.Lib

set_option maxRecDepth 100000 in
set_option maxHeartbeats 400000 in
theorem rdt1 (w : World) : Calls Tryz.prog 39 #[.bool true] w fun e w' => e = .returned (V 1 1 0 E0) ∧ G w w' := by
  go_enter Tryz.func39, Tryz.ntmps39
  go_wp2
  exact bodyPost_ret (v := V 1 1 0 E0) (by simp [results, Tryz.results39, go_sem]) rfl ⟨rfl, by repeat (first | exact G.refl _ | assumption | refine G.alloc ?_ _ | refine G.drew ?_ | refine G.setCell ?_ (by simp) _)⟩
set_option maxRecDepth 100000 in
set_option maxHeartbeats 400000 in
theorem rdt0 (w : World) : Calls Tryz.prog 39 #[.bool false] w fun e w' => e = .returned (V 1 0 0 E0) ∧ G w w' := by
  go_enter Tryz.func39, Tryz.ntmps39
  go_wp2
  exact bodyPost_ret (v := V 1 0 0 E0) (by simp [results, Tryz.results39, go_sem]) rfl ⟨rfl, by repeat (first | exact G.refl _ | assumption | refine G.alloc ?_ _ | refine G.drew ?_ | refine G.setCell ?_ (by simp) _)⟩
set_option maxRecDepth 100000 in
set_option maxHeartbeats 400000 in
theorem rdw (n : Int) (w : World) : Calls Tryz.prog 42 #[.int .i64 n] w fun e w' => e = .returned (V 2 n 0 E0) ∧ G w w' := by
  go_enter Tryz.func42, Tryz.ntmps42
  go_wp2
  exact bodyPost_ret (v := V 2 n 0 E0) (by simp [results, Tryz.results42, go_sem]) rfl ⟨rfl, by repeat (first | exact G.refl _ | assumption | refine G.alloc ?_ _ | refine G.drew ?_ | refine G.setCell ?_ (by simp) _)⟩
set_option maxRecDepth 100000 in
set_option maxHeartbeats 400000 in
theorem rdp (n m : Int) (w : World) : Calls Tryz.prog 83 #[.int .i64 n, .int .i64 m] w fun e w' => e = .returned (V 3 n m E0) ∧ G w w' := by
  go_enter Tryz.func83, Tryz.ntmps83
  go_wp2
  exact bodyPost_ret (v := V 3 n m E0) (by simp [results, Tryz.results83, go_sem]) rfl ⟨rfl, by repeat (first | exact G.refl _ | assumption | refine G.alloc ?_ _ | refine G.drew ?_ | refine G.setCell ?_ (by simp) _)⟩
theorem gid' {bs : List Nat} {n : Int} {c j : Nat} {k : Int} (hck : (c = 16 ∧ k = 5) ∨ (c = 17 ∧ k = 6)) (hd : bs[0]? = some c) (h : NUP bs 1 n j) : GuessP bs k n 0 E0 := by
  have : TWP (bs.drop 1) n ((bs.drop 1).drop (encW n).length) := fun n0 rest hr he => by
    obtain ⟨rfl, _⟩ := h n0 rest hr he
    exact ⟨rfl, by rw [he]; simp⟩
  exact gid hck hd this
theorem gnw' {bs : List Nat} {n : Int} {j : Nat} (h : NUP bs 0 n j) (h1 : bs[j]? ≠ some 1) : GNP bs 2 n 0 E0 := by
  refine ⟨fun a0 rest hr he => ?_, fun a0 b0 rest hr _ he => ?_⟩
  · obtain ⟨rfl, rfl⟩ := h a0 ([0] ++ rest) hr (by rw [he]; simp)
    exact ⟨rfl, rfl, rfl, rfl⟩
  · obtain ⟨rfl, rfl⟩ := h a0 ([1] ++ (encW b0 ++ rest)) hr (by rw [he]; simp)
    refine absurd ?_ h1
    rw [he]; simp
theorem gnp' {bs : List Nat} {n m : Int} {j j2 : Nat} (h : NUP bs 0 n j) (h1 : bs[j]? = some 1) (h2 : NUP bs (j + 1) m j2) : GNP bs 3 n m E0 := by
  refine ⟨fun a0 rest hr he => ?_, fun a0 b0 rest hr hr2 he => ?_⟩
  · obtain ⟨rfl, rfl⟩ := h a0 ([0] ++ rest) hr (by rw [he]; simp)
    rw [he] at h1; simp at h1
  · obtain ⟨rfl, rfl⟩ := h a0 ([1] ++ (encW b0 ++ rest)) hr (by rw [he]; simp)
    obtain ⟨rfl, _⟩ := h2 b0 rest hr2 (by rw [he]; simp [List.drop_append])
    exact ⟨rfl, rfl, rfl, rfl⟩
theorem g48' {bs : List Nat} {k a b : Int} {s : ByteArray} (hd : bs[0]? = some 48) (hl : bs.length ≤ 1) : GuessP bs k a b s := by
  intro k0 a0 b0 s0 rest hok ha hb he
  exfalso
  have hk : k0 = 1 := by have := head_of hok ha he hd; omega
  subst hk
  have he' : bs = 48 :: a0.toNat :: rest := he
  rw [he'] at hl
  simp at hl
set_option maxRecDepth 100000 in
set_option maxHeartbeats 16000000 in
theorem rd_80 (g o cap : Nat) (bs : List Nat) (w : World) (_hcap : bs.length ≤ cap) (_hb : ∀ d ∈ bs, d < 256) (_hl : bs.length ≤ 140737488355328) (hlen : 0 < bs.length) (hrow : RowB w (.slice (some ⟨g, o, none⟩) bs.length cap) bs) (hd : bs[0]? = some 80) : Calls Tryz.prog 108 #[.slice (some ⟨g, o, none⟩) bs.length cap] w (GBA bs w) := by
  have HP : Hid (GuessP bs 0 0 0 E0) := g80 hd
  have hc' : ∀ i d, bs[i]? = some d → w.cell? ⟨g, o + i, none⟩ = some (bv d) := fun i d hi => by
    obtain ⟨p, cap', he, _, hc⟩ := hrow
    cases he
    obtain ⟨g', o', h1, h2⟩ := hc i d hi
    cases h1; exact h2
  have hlti : (0 : Int) < (bs.length : Int) := by omega
  have hcell : w.cell? ⟨g, o, none⟩ = some (bv 80) := by have := hc' 0 80 hd; rwa [Nat.add_zero] at this
  have hgz : g < w.heap.size := cell_ltE hcell
  clear hrow hd _hb hc'
  go_enter Tryz.func108, Tryz.ntmps108
  go_wp2
  exact bodyPost_ret (v := V 0 0 0 E0) (by simp [results, Tryz.results108, go_sem]) rfl ⟨0, 0, 0, E0, rfl, R0, R0, by decide, HP.out, by repeat (first | exact G.refl _ | assumption | refine G.alloc ?_ _ | refine G.drew ?_ | refine G.setCell ?_ (by simp) _)⟩
set_option maxRecDepth 100000 in
set_option maxHeartbeats 16000000 in
theorem rd_48y (g o cap : Nat) (bs : List Nat) (w : World) (_hcap : bs.length ≤ cap) (_hb : ∀ d ∈ bs, d < 256) (_hl : bs.length ≤ 140737488355328) (hlen : 0 < bs.length) (hrow : RowB w (.slice (some ⟨g, o, none⟩) bs.length cap) bs) (hd : bs[0]? = some 48) (hd1 : bs[1]? = some 1) : Calls Tryz.prog 108 #[.slice (some ⟨g, o, none⟩) bs.length cap] w (GBA bs w) := by
  have HP : Hid (GuessP bs 1 1 0 E0) := by have := g48 hd; rwa [if_pos (by rw [List.getElem?_drop]; exact hd1)] at this
  have hc' : ∀ i d, bs[i]? = some d → w.cell? ⟨g, o + i, none⟩ = some (bv d) := fun i d hi => by
    obtain ⟨p, cap', he, _, hc⟩ := hrow
    cases he
    obtain ⟨g', o', h1, h2⟩ := hc i d hi
    cases h1; exact h2
  have hlti : (0 : Int) < (bs.length : Int) := by omega
  have hcell : w.cell? ⟨g, o, none⟩ = some (bv 48) := by have := hc' 0 48 hd; rwa [Nat.add_zero] at this
  have hgz : g < w.heap.size := cell_ltE hcell
  have hcell1 := hc' 1 1 hd1
  have hl1 := (List.getElem?_eq_some_iff.1 hd1).1
  have hl1i : (1 : Int) < (bs.length : Int) := by omega
  clear hrow hd _hb hc' hd1
  go_enter Tryz.func108, Tryz.ntmps108
  go_wp2_with fail
  refine (rdt1 _).mono ?_
  rintro e w1 ⟨rfl, hb1⟩
  have hcz : ∀ o, w1.cell? { block := w.heap.size, off := o } = [I 0, I 0, I 0, .string E0][o]? := G.cells hb1 (by simp) (by simp)
  have hfz : ∀ o, w1.frozen? { block := w.heap.size, off := o } = false := G.frozens hb1 (by simp) (by simp)
  have HG : Hid (G w w1) := ((G.refl w).alloc _).trans hb1
  clear hb1
  go_wp2
  exact bodyPost_ret (v := V 1 1 0 E0) (by simp [results, Tryz.results108, go_sem, hcz]) rfl ⟨1, 1, 0, E0, rfl, by unfold R64; omega, R0, by decide, HP.out, by repeat (first | exact G.refl _ | assumption | exact HG.out | refine G.alloc ?_ _ | refine G.drewNE ?_ _ | refine G.drew ?_ | refine G.setCell ?_ (by simp) _)⟩
set_option maxRecDepth 100000 in
set_option maxHeartbeats 16000000 in
theorem rd_48n (g o cap : Nat) (bs : List Nat) (w : World) (_hcap : bs.length ≤ cap) (_hb : ∀ d ∈ bs, d < 256) (_hl : bs.length ≤ 140737488355328) (hlen : 0 < bs.length) (hrow : RowB w (.slice (some ⟨g, o, none⟩) bs.length cap) bs) (hd : bs[0]? = some 48) (d1 : Nat) (hd1 : bs[1]? = some d1) (hne : d1 ≠ 1) : Calls Tryz.prog 108 #[.slice (some ⟨g, o, none⟩) bs.length cap] w (GBA bs w) := by
  have HP : Hid (GuessP bs 1 0 0 E0) := by have := g48 hd; rwa [if_neg (by rw [List.getElem?_drop, hd1]; simp; exact hne)] at this
  have hc' : ∀ i d, bs[i]? = some d → w.cell? ⟨g, o + i, none⟩ = some (bv d) := fun i d hi => by
    obtain ⟨p, cap', he, _, hc⟩ := hrow
    cases he
    obtain ⟨g', o', h1, h2⟩ := hc i d hi
    cases h1; exact h2
  have hlti : (0 : Int) < (bs.length : Int) := by omega
  have hcell : w.cell? ⟨g, o, none⟩ = some (bv 48) := by have := hc' 0 48 hd; rwa [Nat.add_zero] at this
  have hgz : g < w.heap.size := cell_ltE hcell
  have hcell1 := hc' 1 d1 hd1
  have hl1 := (List.getElem?_eq_some_iff.1 hd1).1
  have hl1i : (1 : Int) < (bs.length : Int) := by omega
  have hne1 : ((d1 : Int) == 1) = false := beq_false_of_ne (by omega)
  clear hrow hd _hb hc' hd1 hne
  go_enter Tryz.func108, Tryz.ntmps108
  go_wp2_with fail
  refine (rdt0 _).mono ?_
  rintro e w1 ⟨rfl, hb1⟩
  have hcz : ∀ o, w1.cell? { block := w.heap.size, off := o } = [I 0, I 0, I 0, .string E0][o]? := G.cells hb1 (by simp) (by simp)
  have hfz : ∀ o, w1.frozen? { block := w.heap.size, off := o } = false := G.frozens hb1 (by simp) (by simp)
  have HG : Hid (G w w1) := ((G.refl w).alloc _).trans hb1
  clear hb1
  go_wp2
  exact bodyPost_ret (v := V 1 0 0 E0) (by simp [results, Tryz.results108, go_sem, hcz]) rfl ⟨1, 0, 0, E0, rfl, by unfold R64; omega, R0, by decide, HP.out, by repeat (first | exact G.refl _ | assumption | exact HG.out | refine G.alloc ?_ _ | refine G.drewNE ?_ _ | refine G.drew ?_ | refine G.setCell ?_ (by simp) _)⟩
set_option maxRecDepth 100000 in
set_option maxHeartbeats 16000000 in
theorem rd_16 (g o cap : Nat) (bs : List Nat) (w : World) (_hcap : bs.length ≤ cap) (_hb : ∀ d ∈ bs, d < 256) (_hl : bs.length ≤ 140737488355328) (hlen : 0 < bs.length) (hrow : RowB w (.slice (some ⟨g, o, none⟩) bs.length cap) bs) (hd : bs[0]? = some 16) : Calls Tryz.prog 108 #[.slice (some ⟨g, o, none⟩) bs.length cap] w (GBA bs w) := by
  have H1 : Hid (∀ W, G w W → Calls Tryz.prog 146 #[.slice (some ⟨g, o, none⟩) bs.length cap, .int .i64 1] W (NUA bs 1 W)) := fun W g => nu_any _ bs 1 W (hrow.G g) _hb _hl (by omega)
  have HD : Hid _ := hd
  have hc' : ∀ i d, bs[i]? = some d → w.cell? ⟨g, o + i, none⟩ = some (bv d) := fun i d hi => by
    obtain ⟨p, cap', he, _, hc⟩ := hrow
    cases he
    obtain ⟨g', o', h1, h2⟩ := hc i d hi
    cases h1; exact h2
  have hlti : (0 : Int) < (bs.length : Int) := by omega
  have hcell : w.cell? ⟨g, o, none⟩ = some (bv 16) := by have := hc' 0 16 hd; rwa [Nat.add_zero] at this
  have hgz : g < w.heap.size := cell_ltE hcell
  clear hrow hd _hb hc'
  go_enter Tryz.func108, Tryz.ntmps108
  go_wp2_with fail
  refine (H1.out _ ((G.refl w).alloc _)).mono ?_
  rintro e w1 ⟨n, j, rfl, hn, hp, _, hw⟩
  rw [hw]
  have HP : Hid (GuessP bs 5 n 0 E0) := gid' (by omega) HD.out hp
  clear hw hp H1
  go_wp2
  exact bodyPost_ret (v := V 5 n 0 E0) (by simp [results, Tryz.results108, go_sem]) rfl ⟨5, n, 0, E0, rfl, hn, R0, by decide, HP.out, by repeat (first | exact G.refl _ | assumption | refine G.alloc ?_ _ | refine G.drew ?_ | refine G.setCell ?_ (by simp) _)⟩
set_option maxRecDepth 100000 in
set_option maxHeartbeats 16000000 in
theorem rd_17 (g o cap : Nat) (bs : List Nat) (w : World) (_hcap : bs.length ≤ cap) (_hb : ∀ d ∈ bs, d < 256) (_hl : bs.length ≤ 140737488355328) (hlen : 0 < bs.length) (hrow : RowB w (.slice (some ⟨g, o, none⟩) bs.length cap) bs) (hd : bs[0]? = some 17) : Calls Tryz.prog 108 #[.slice (some ⟨g, o, none⟩) bs.length cap] w (GBA bs w) := by
  have H1 : Hid (∀ W, G w W → Calls Tryz.prog 146 #[.slice (some ⟨g, o, none⟩) bs.length cap, .int .i64 1] W (NUA bs 1 W)) := fun W g => nu_any _ bs 1 W (hrow.G g) _hb _hl (by omega)
  have HD : Hid _ := hd
  have hc' : ∀ i d, bs[i]? = some d → w.cell? ⟨g, o + i, none⟩ = some (bv d) := fun i d hi => by
    obtain ⟨p, cap', he, _, hc⟩ := hrow
    cases he
    obtain ⟨g', o', h1, h2⟩ := hc i d hi
    cases h1; exact h2
  have hlti : (0 : Int) < (bs.length : Int) := by omega
  have hcell : w.cell? ⟨g, o, none⟩ = some (bv 17) := by have := hc' 0 17 hd; rwa [Nat.add_zero] at this
  have hgz : g < w.heap.size := cell_ltE hcell
  clear hrow hd _hb hc'
  go_enter Tryz.func108, Tryz.ntmps108
  go_wp2_with fail
  refine (H1.out _ ((G.refl w).alloc _)).mono ?_
  rintro e w1 ⟨n, j, rfl, hn, hp, _, hw⟩
  rw [hw]
  have HP : Hid (GuessP bs 6 n 0 E0) := gid' (by omega) HD.out hp
  clear hw hp H1
  go_wp2
  exact bodyPost_ret (v := V 6 n 0 E0) (by simp [results, Tryz.results108, go_sem]) rfl ⟨6, n, 0, E0, rfl, hn, R0, by decide, HP.out, by repeat (first | exact G.refl _ | assumption | refine G.alloc ?_ _ | refine G.drew ?_ | refine G.setCell ?_ (by simp) _)⟩
set_option maxRecDepth 100000 in
set_option maxHeartbeats 16000000 in
theorem rd_numa (g o cap : Nat) (bs : List Nat) (w : World) (_hcap : bs.length ≤ cap) (_hb : ∀ d ∈ bs, d < 256) (_hl : bs.length ≤ 140737488355328) (hlen : 0 < bs.length) (hrow : RowB w (.slice (some ⟨g, o, none⟩) bs.length cap) bs) (d : Nat) (hd : bs[0]? = some d) (hne' : d ≠ 80 ∧ d ≠ 48 ∧ d ≠ 32 ∧ d ≠ 16 ∧ d ≠ 17) : Calls Tryz.prog 108 #[.slice (some ⟨g, o, none⟩) bs.length cap] w (GBA bs w) := by
  have H1 : Hid (∀ W, G w W → Calls Tryz.prog 146 #[.slice (some ⟨g, o, none⟩) bs.length cap, .int .i64 0] W (NUA bs 0 W)) := fun W g => nu_any _ bs 0 W (hrow.G g) _hb _hl (by omega)
  have HJ : Hid (∀ W j, G w W → j ≤ 257 → Calls Tryz.prog 146 #[.slice (some ⟨g, o, none⟩) bs.length cap, .int .i64 ((j : Nat) : Int)] W (NUA bs j W)) := fun W j g hj => nu_any _ bs j W (hrow.G g) _hb _hl (by omega)
  have HD : Hid _ := hd
  have HN : Hid _ := hne'
  have hc' : ∀ i d, bs[i]? = some d → w.cell? ⟨g, o + i, none⟩ = some (bv d) := fun i d hi => by
    obtain ⟨p, cap', he, _, hc⟩ := hrow
    cases he
    obtain ⟨g', o', h1, h2⟩ := hc i d hi
    cases h1; exact h2
  have hlti : (0 : Int) < (bs.length : Int) := by omega
  have hcell : w.cell? ⟨g, o, none⟩ = some (bv d) := by have := hc' 0 d hd; rwa [Nat.add_zero] at this
  have hgz : g < w.heap.size := cell_ltE hcell
  have n80 : ((d : Int) == 80) = false := beq_false_of_ne (by omega)
  have n48 : ((d : Int) == 48) = false := beq_false_of_ne (by omega)
  have n32 : ((d : Int) == 32) = false := beq_false_of_ne (by omega)
  have n16 : ((d : Int) == 16) = false := beq_false_of_ne (by omega)
  have n17 : ((d : Int) == 17) = false := beq_false_of_ne (by omega)
  have HC : Hid _ := hc'
  clear hrow hd _hb hc' hne'
  go_enter Tryz.func108, Tryz.ntmps108
  go_wp2_with fail
  refine (H1.out _ ((G.refl w).alloc _)).mono ?_
  rintro e w1 ⟨n, j, rfl, hn, hp, hj, hw⟩
  rw [hw]
  clear hw H1
  have hj' : j ≤ 256 := by omega
  by_cases hjl : j < bs.length
  · have hjli : (j : Int) < (bs.length : Int) := by omega
    obtain ⟨d1, hd1⟩ : ∃ d1, bs[j]? = some d1 := ⟨_, List.getElem?_eq_getElem hjl⟩
    have hcj := HC.out j d1 hd1
    by_cases h1 : d1 = 1
    · subst h1
      have HH1 : Hid _ := hd1
      have HP0 : Hid _ := hp
      have H2 : Hid _ := fun W g => HJ.out W (j + 1) g (by omega)
      clear HJ hp hd1
      go_wp2_with fail
      refine (H2.out _ ((G.refl w).alloc _)).mono ?_
      rintro e w2 ⟨m, j2, rfl, hm, hp2, _, hw2⟩
      rw [hw2]
      have HP : Hid (GuessP bs 3 n m E0) := gnum HD.out HN.out (gnp' HP0.out HH1.out hp2)
      clear hw2 H2 hp2
      go_wp2_with fail
      refine (rdp n m _).mono ?_
      rintro e w1 ⟨rfl, hb1⟩
      have hcz : ∀ o, w1.cell? { block := w.heap.size, off := o } = [I 0, I 0, I 0, .string E0][o]? := G.cells hb1 (by simp) (by simp)
      have hfz : ∀ o, w1.frozen? { block := w.heap.size, off := o } = false := G.frozens hb1 (by simp) (by simp)
      have HG : Hid (G w w1) := ((G.refl w).alloc _).trans hb1
      clear hb1
      go_wp2
      exact bodyPost_ret (v := V 3 n m E0) (by simp [results, Tryz.results108, go_sem, hcz]) rfl ⟨3, n, m, E0, rfl, hn, hm, by decide, HP.out, by repeat (first | exact G.refl _ | assumption | exact HG.out | refine G.alloc ?_ _ | refine G.drewNE ?_ _ | refine G.drew ?_ | refine G.setCell ?_ (by simp) _)⟩
    · have HP : Hid (GuessP bs 2 n 0 E0) := gnum HD.out HN.out (gnw' hp (by rw [hd1]; simp; exact h1))
      have h1n : ((d1 : Int) == 1) = false := beq_false_of_ne (by omega)
      clear HJ hp hd1 h1
      go_wp2_with fail
      refine (rdw n _).mono ?_
      rintro e w1 ⟨rfl, hb1⟩
      have hcz : ∀ o, w1.cell? { block := w.heap.size, off := o } = [I 0, I 0, I 0, .string E0][o]? := G.cells hb1 (by simp) (by simp)
      have hfz : ∀ o, w1.frozen? { block := w.heap.size, off := o } = false := G.frozens hb1 (by simp) (by simp)
      have HG : Hid (G w w1) := ((G.refl w).alloc _).trans hb1
      clear hb1
      go_wp2
      exact bodyPost_ret (v := V 2 n 0 E0) (by simp [results, Tryz.results108, go_sem, hcz]) rfl ⟨2, n, 0, E0, rfl, hn, R0, by decide, HP.out, by repeat (first | exact G.refl _ | assumption | exact HG.out | refine G.alloc ?_ _ | refine G.drewNE ?_ _ | refine G.drew ?_ | refine G.setCell ?_ (by simp) _)⟩
  · have hjli : ¬ (j : Int) < (bs.length : Int) := by omega
    have HP : Hid (GuessP bs 2 n 0 E0) := gnum HD.out HN.out (gnw' hp (by rw [List.getElem?_eq_none (by omega)]; simp))
    clear HJ hp
    go_wp2_with fail
    refine (rdw n _).mono ?_
    rintro e w1 ⟨rfl, hb1⟩
    have hcz : ∀ o, w1.cell? { block := w.heap.size, off := o } = [I 0, I 0, I 0, .string E0][o]? := G.cells hb1 (by simp) (by simp)
    have hfz : ∀ o, w1.frozen? { block := w.heap.size, off := o } = false := G.frozens hb1 (by simp) (by simp)
    have HG : Hid (G w w1) := ((G.refl w).alloc _).trans hb1
    clear hb1
    go_wp2
    exact bodyPost_ret (v := V 2 n 0 E0) (by simp [results, Tryz.results108, go_sem, hcz]) rfl ⟨2, n, 0, E0, rfl, hn, R0, by decide, HP.out, by repeat (first | exact G.refl _ | assumption | exact HG.out | refine G.alloc ?_ _ | refine G.drewNE ?_ _ | refine G.drew ?_ | refine G.setCell ?_ (by simp) _)⟩
set_option maxRecDepth 100000 in
set_option maxHeartbeats 16000000 in
theorem rd_numb (g o cap : Nat) (bs : List Nat) (w : World) (_hcap : bs.length ≤ cap) (_hb : ∀ d ∈ bs, d < 256) (_hl : bs.length ≤ 140737488355328) (hlen : 0 < bs.length) (hrow : RowB w (.slice (some ⟨g, o, none⟩) bs.length cap) bs) (hd : bs[0]? = some 48) (hl1 : ¬ 1 < bs.length) : Calls Tryz.prog 108 #[.slice (some ⟨g, o, none⟩) bs.length cap] w (GBA bs w) := by
  have H1 : Hid (∀ W, G w W → Calls Tryz.prog 146 #[.slice (some ⟨g, o, none⟩) bs.length cap, .int .i64 0] W (NUA bs 0 W)) := fun W g => nu_any _ bs 0 W (hrow.G g) _hb _hl (by omega)
  have HJ : Hid (∀ W j, G w W → j ≤ 257 → Calls Tryz.prog 146 #[.slice (some ⟨g, o, none⟩) bs.length cap, .int .i64 ((j : Nat) : Int)] W (NUA bs j W)) := fun W j g hj => nu_any _ bs j W (hrow.G g) _hb _hl (by omega)
  have HD : Hid _ := hd

  have hc' : ∀ i d, bs[i]? = some d → w.cell? ⟨g, o + i, none⟩ = some (bv d) := fun i d hi => by
    obtain ⟨p, cap', he, _, hc⟩ := hrow
    cases he
    obtain ⟨g', o', h1, h2⟩ := hc i d hi
    cases h1; exact h2
  have hlti : (0 : Int) < (bs.length : Int) := by omega
  have hcell : w.cell? ⟨g, o, none⟩ = some (bv 48) := by have := hc' 0 48 hd; rwa [Nat.add_zero] at this
  have hgz : g < w.heap.size := cell_ltE hcell
  have hl1i : ¬ (1 : Int) < (bs.length : Int) := by omega
  have HC : Hid _ := hc'
  clear hrow hd _hb hc'
  go_enter Tryz.func108, Tryz.ntmps108
  go_wp2_with fail
  refine (H1.out _ ((G.refl w).alloc _)).mono ?_
  rintro e w1 ⟨n, j, rfl, hn, hp, hj, hw⟩
  rw [hw]
  clear hw H1
  have hj' : j ≤ 256 := by omega
  by_cases hjl : j < bs.length
  · have hjli : (j : Int) < (bs.length : Int) := by omega
    obtain ⟨d1, hd1⟩ : ∃ d1, bs[j]? = some d1 := ⟨_, List.getElem?_eq_getElem hjl⟩
    have hcj := HC.out j d1 hd1
    by_cases h1 : d1 = 1
    · subst h1
      have HH1 : Hid _ := hd1
      have HP0 : Hid _ := hp
      have H2 : Hid _ := fun W g => HJ.out W (j + 1) g (by omega)
      clear HJ hp hd1
      go_wp2_with fail
      refine (H2.out _ ((G.refl w).alloc _)).mono ?_
      rintro e w2 ⟨m, j2, rfl, hm, hp2, _, hw2⟩
      rw [hw2]
      have HP : Hid (GuessP bs 3 n m E0) := g48' HD.out (by omega)
      clear hw2 H2 hp2
      go_wp2_with fail
      refine (rdp n m _).mono ?_
      rintro e w1 ⟨rfl, hb1⟩
      have hcz : ∀ o, w1.cell? { block := w.heap.size, off := o } = [I 0, I 0, I 0, .string E0][o]? := G.cells hb1 (by simp) (by simp)
      have hfz : ∀ o, w1.frozen? { block := w.heap.size, off := o } = false := G.frozens hb1 (by simp) (by simp)
      have HG : Hid (G w w1) := ((G.refl w).alloc _).trans hb1
      clear hb1
      go_wp2
      exact bodyPost_ret (v := V 3 n m E0) (by simp [results, Tryz.results108, go_sem, hcz]) rfl ⟨3, n, m, E0, rfl, hn, hm, by decide, HP.out, by repeat (first | exact G.refl _ | assumption | exact HG.out | refine G.alloc ?_ _ | refine G.drewNE ?_ _ | refine G.drew ?_ | refine G.setCell ?_ (by simp) _)⟩
    · have HP : Hid (GuessP bs 2 n 0 E0) := g48' HD.out (by omega)
      have h1n : ((d1 : Int) == 1) = false := beq_false_of_ne (by omega)
      clear HJ hp hd1 h1
      go_wp2_with fail
      refine (rdw n _).mono ?_
      rintro e w1 ⟨rfl, hb1⟩
      have hcz : ∀ o, w1.cell? { block := w.heap.size, off := o } = [I 0, I 0, I 0, .string E0][o]? := G.cells hb1 (by simp) (by simp)
      have hfz : ∀ o, w1.frozen? { block := w.heap.size, off := o } = false := G.frozens hb1 (by simp) (by simp)
      have HG : Hid (G w w1) := ((G.refl w).alloc _).trans hb1
      clear hb1
      go_wp2
      exact bodyPost_ret (v := V 2 n 0 E0) (by simp [results, Tryz.results108, go_sem, hcz]) rfl ⟨2, n, 0, E0, rfl, hn, R0, by decide, HP.out, by repeat (first | exact G.refl _ | assumption | exact HG.out | refine G.alloc ?_ _ | refine G.drewNE ?_ _ | refine G.drew ?_ | refine G.setCell ?_ (by simp) _)⟩
  · have hjli : ¬ (j : Int) < (bs.length : Int) := by omega
    have HP : Hid (GuessP bs 2 n 0 E0) := g48' HD.out (by omega)
    clear HJ hp
    go_wp2_with fail
    refine (rdw n _).mono ?_
    rintro e w1 ⟨rfl, hb1⟩
    have hcz : ∀ o, w1.cell? { block := w.heap.size, off := o } = [I 0, I 0, I 0, .string E0][o]? := G.cells hb1 (by simp) (by simp)
    have hfz : ∀ o, w1.frozen? { block := w.heap.size, off := o } = false := G.frozens hb1 (by simp) (by simp)
    have HG : Hid (G w w1) := ((G.refl w).alloc _).trans hb1
    clear hb1
    go_wp2
    exact bodyPost_ret (v := V 2 n 0 E0) (by simp [results, Tryz.results108, go_sem, hcz]) rfl ⟨2, n, 0, E0, rfl, hn, R0, by decide, HP.out, by repeat (first | exact G.refl _ | assumption | exact HG.out | refine G.alloc ?_ _ | refine G.drewNE ?_ _ | refine G.drew ?_ | refine G.setCell ?_ (by simp) _)⟩
end Go.Proofs.YtficmpaeochcgaaGreatDoor
