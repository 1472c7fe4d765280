/- trellisref1.number. -/
import Derived.Test.YtficmpaeochcgaaGreatDoorDec1
namespace Go.Proofs.YtficmpaeochcgaaGreatDoor
open Go.RowKit Go.Shelf Go.PlainAid Go.Lib

/-- One digit more, below 0. -/
def mstep (m : Int) (d : Nat) : Int := wrap64 (wrap64 (m * 256) - d)
def macc (l : List Nat) : Int := l.foldl mstep 0
theorem macc_snoc (l : List Nat) (d : Nat) : macc (l ++ [d]) = mstep (macc l) d := by
  unfold macc
  rw [List.foldl_append]; rfl
theorem acc_ge (l : List Nat) (a : Nat) : a ≤ l.foldl (fun m d => m * 256 + d) a := by
  induction l generalizing a with
  | nil => exact Nat.le_refl _
  | cons d l ih =>
    have := ih (a * 256 + d)
    rw [List.foldl_cons]; omega
theorem macc_eq' (l : List Nat) (a : Nat) (h : l.foldl (fun m d => m * 256 + d) a ≤ 9223372036854775808) : l.foldl mstep (-(a : Int)) = -((l.foldl (fun m d => m * 256 + d) a : Nat) : Int) := by
  induction l generalizing a with
  | nil => rfl
  | cons d l ih =>
    rw [List.foldl_cons] at h
    have h1 := acc_ge l (a * 256 + d)
    have h2 : mstep (-(a : Int)) d = -((a * 256 + d : Nat) : Int) := by
      unfold mstep wrap64
      omega
    rw [List.foldl_cons, List.foldl_cons, h2]
    exact ih (a * 256 + d) h
theorem macc_eq (l : List Nat) (h : acc l ≤ 9223372036854775808) : macc l = -((acc l : Nat) : Int) := macc_eq' l 0 h
theorem macc_r64 (l : List Nat) : R64 (macc l) := by
  rcases List.eq_nil_or_concat l with rfl | ⟨q, d, rfl⟩
  · unfold R64 macc; simp
  · rw [List.concat_eq_append, macc_snoc]
    exact r64_wrap _
/-- The number and the place behind it, where such bytes stand at i. -/
def NUP (bs : List Nat) (i : Nat) (n : Int) (j : Nat) : Prop := ∀ n0 rest, R64 n0 → bs.drop i = encW n0 ++ rest → n = n0 ∧ j = i + (encW n0).length
def NUA (bs : List Nat) (i : Nat) (w : World) (e : Ending) (w' : World) : Prop := ∃ (n : Int) (j : Nat), e = .returned (.tuple #[.int .i64 n, .int .i64 j]) ∧ R64 n ∧ NUP bs i n j ∧ j ≤ i + 256 ∧ w' = w
set_option maxRecDepth 100000 in
set_option maxHeartbeats 8000000 in
theorem nu_out (p : Option Addr) (cap i : Nat) (bs : List Nat) (w : World) (_hl : bs.length ≤ 140737488355328) (_hi : i ≤ 140737488355328) (h : bs.length ≤ i) : Calls Tryz.prog 146 #[.slice p bs.length cap, .int .i64 i] w (NUA bs i w) := by
  have HP : Hid (NUP bs i 0 i) := fun n0 rest _ he => by rw [List.drop_of_length_le h] at he; simp [encW] at he
  have hii : (bs.length : Int) ≤ (i : Int) := by omega
  go_enter Tryz.func146, Tryz.ntmps146
  go_wp2
  go_ret2
  exact ⟨0, i, rfl, by unfold R64; omega, HP.out, by omega, rfl⟩
theorem nup_pos (bs : List Nat) (d0 L i k : Nat) (hd : bs[i]? = some d0) (hdL : (d0 : Int) - 64 = (L : Int)) (hk : k = min L (min 8 (bs.length - (i + 1)))) : NUP bs i (wrap64 (-(macc ((bs.drop (i + 1)).take k)))) (i + 1 + L) := by
  intro n0 rest hr he
  have hd' : (bs.drop i)[0]? = some d0 := by rw [List.getElem?_drop]; exact hd
  obtain ⟨h1, h2, h3⟩ := enc_split he
  have hl8 := low_len n0 hr.1 hr.2
  have hlen := congrArg List.length he
  simp [encW] at hlen
  rw [hd'] at h1
  have h1 := Option.some.inj h1
  rw [List.drop_drop] at h2
  by_cases hn : n0 < 0
  · rw [if_pos hn] at h1
    have := enc_neg hn
    omega
  · rw [if_neg hn] at h1
    have hLL : (lowB n0).length = L := by omega
    have hkL : k = L := by omega
    refine ⟨?_, by simp [encW]; omega⟩
    rw [hkL, ← hLL, h2]
    have hf : (lowB n0).reverse = (lowB n0).reverse.map (flipB n0) := by
      conv => lhs; rw [← List.map_id (lowB n0).reverse]
      exact List.map_congr_left fun x _ => by unfold flipB; rw [if_neg hn]; rfl
    have hb := low_back n0
    rw [hf, hb, macc_eq _ (by rw [acc_digs]; have := hr.2; omega), acc_digs]
    unfold wrap64
    have := hr.2
    omega
set_option maxRecDepth 100000 in
set_option maxHeartbeats 8000000 in
theorem nu_pos (g o cap d0 L i : Nat) (bs : List Nat) (w : World) (hc : ∀ j d, bs[j]? = some d → w.cell? ⟨g, o + j, none⟩ = some (bv d)) (hb : ∀ d ∈ bs, d < 256) (hl : bs.length ≤ 140737488355328)
    (hd : bs[i]? = some d0) (hdL : (d0 : Int) - 64 = (L : Int)) : Calls Tryz.prog 146 #[.slice (some ⟨g, o, none⟩) bs.length cap, .int .i64 i] w (NUA bs i w) := by
  have HT : Hid (∀ k, k = min L (min 8 (bs.length - (i + 1))) → NUP bs i (wrap64 (-(macc ((bs.drop (i + 1)).take k)))) (i + 1 + L)) := fun k hk => nup_pos bs d0 L i k hd hdL hk
  have hilt : i < bs.length := (List.getElem?_eq_some_iff.1 hd).1
  have hcell := hc i d0 hd
  have hd256 : d0 < 256 := hb d0 (List.mem_of_getElem? hd)
  have HC : Hid _ := hc
  have HB256 : Hid _ := hb
  have hili : (i : Int) < (bs.length : Int) := by omega
  have hL256 : L < 256 := by omega
  clear hc hb hd
  go_enter Tryz.func146, Tryz.ntmps146
  go_wp2
  go_loopw [8, 9, 10] (fun m k _ W => ∃ j : Nat, j ≤ L ∧ j ≤ 8 ∧ j ≤ bs.length - (i + 1) ∧ k = .int .i64 ((j : Int) + 1) ∧ m = .int .i64 (macc ((bs.drop (i + 1)).take j)) ∧ W = w) (fun _ k _ _ => 9 - (RowKit.intOf k).toNat)
  case atStart => exact ⟨0, Nat.zero_le _, by omega, Nat.zero_le _, rfl, rfl, rfl⟩
  case round =>
    obtain ⟨j, hj, hj8, hjl, rfl, rfl, rfl⟩ := hrel
    by_cases h1 : j < L
    · have h1i : (j : Int) + 1 ≤ L := by omega
      by_cases h2 : i + 1 + j < bs.length
      · have h2i : (i : Int) + ((j : Int) + 1) < (bs.length : Int) := by omega
        by_cases h3 : j < 8
        · have h3i : (j : Int) + 1 ≤ 8 := by omega
          obtain ⟨d, hdj⟩ : ∃ d, bs[i + (j + 1)]? = some d := ⟨_, List.getElem?_eq_getElem (by omega)⟩
          have hcj := HC.out (i + (j + 1)) d hdj
          have hd2 : d < 256 := HB256.out d (List.mem_of_getElem? hdj)
          have hsub : (bs.drop (i + 1)).take (j + 1) = (bs.drop (i + 1)).take j ++ [d] := by
            rw [List.take_add_one, List.getElem?_drop, show i + 1 + j = i + (j + 1) by omega, hdj]; rfl
          have hacc : macc ((bs.drop (i + 1)).take (j + 1)) = mstep (macc ((bs.drop (i + 1)).take j)) (d) := by rw [hsub, macc_snoc]
          have HA : Hid _ := hacc
          have hR := macc_r64 ((bs.drop (i + 1)).take j)
          clear hsub hacc hdj
          generalize macc ((bs.drop (i + 1)).take j) = M at HA hR
          have HR : Hid _ := hR
          clear hR
          have hcast : (((d : Nat)) : Int) = (d : Int) := by omega
          have HCa : Hid _ := hcast
          clear hcast
          go_wp2
          go_roundw
          case rel => exact ⟨j + 1, by omega, by omega, by omega, by go_num, by rw [HA.out]; unfold mstep; rw [HCa.out], trivial⟩
          case measure => simp [RowKit.intOf]; omega
        · have h3i : ¬ (j : Int) + 1 ≤ 8 := by omega
          have HJ : Hid (NUP bs i (wrap64 (-(macc ((bs.drop (i + 1)).take j)))) (i + 1 + L)) := HT.out j (by omega)
          clear HT
          have HM : Hid _ := macc_r64 ((bs.drop (i + 1)).take j)
          generalize macc ((bs.drop (i + 1)).take j) = M at HJ HM
          go_wp2
          go_ret2
          exact ⟨_, i + 1 + L, by simp, r64_wrap _, HJ.out, by omega, rfl⟩
      · have h2i : ¬ (i : Int) + ((j : Int) + 1) < (bs.length : Int) := by omega
        have HJ : Hid (NUP bs i (wrap64 (-(macc ((bs.drop (i + 1)).take j)))) (i + 1 + L)) := HT.out j (by omega)
        clear HT
        have HM : Hid _ := macc_r64 ((bs.drop (i + 1)).take j)
        generalize macc ((bs.drop (i + 1)).take j) = M at HJ HM
        go_wp2
        go_ret2
        exact ⟨_, i + 1 + L, by simp, r64_wrap _, HJ.out, by omega, rfl⟩
    · have h1i : ¬ (j : Int) + 1 ≤ L := by omega
      have HJ : Hid (NUP bs i (wrap64 (-(macc ((bs.drop (i + 1)).take j)))) (i + 1 + L)) := HT.out j (by omega)
      clear HT
      have HM : Hid _ := macc_r64 ((bs.drop (i + 1)).take j)
      generalize macc ((bs.drop (i + 1)).take j) = M at HJ HM
      go_wp2
      go_ret2
      exact ⟨_, i + 1 + L, by simp, r64_wrap _, HJ.out, by omega, rfl⟩
theorem nup_neg (bs : List Nat) (d0 L i k : Nat) (hd : bs[i]? = some d0) (hdL : (d0 : Int) - 64 = -(L : Int)) (hL1 : 1 ≤ L) (hk : k = min L (min 8 (bs.length - (i + 1)))) : NUP bs i (macc (((bs.drop (i + 1)).take k).map (255 - ·))) (i + 1 + L) := by
  intro n0 rest hr he
  have hd' : (bs.drop i)[0]? = some d0 := by rw [List.getElem?_drop]; exact hd
  obtain ⟨h1, h2, h3⟩ := enc_split he
  have hl8 := low_len n0 hr.1 hr.2
  have hlen := congrArg List.length he
  simp [encW] at hlen
  rw [hd'] at h1
  have h1 := Option.some.inj h1
  rw [List.drop_drop] at h2
  by_cases hn : n0 < 0
  · rw [if_pos hn] at h1
    have hLL : (lowB n0).length = L := by omega
    have hkL : k = L := by omega
    refine ⟨?_, by simp [encW]; omega⟩
    rw [hkL, ← hLL, h2]
    have hf : (lowB n0).reverse.map (255 - ·) = (lowB n0).reverse.map (flipB n0) := List.map_congr_left fun x _ => by unfold flipB; rw [if_pos hn]
    have hb := low_back n0
    rw [hf, hb, macc_eq _ (by rw [acc_digs]; have := hr.1; omega), acc_digs]
    omega
  · rw [if_neg hn] at h1
    omega
set_option maxRecDepth 100000 in
set_option maxHeartbeats 8000000 in
theorem nu_neg (g o cap d0 L i : Nat) (bs : List Nat) (w : World) (hc : ∀ j d, bs[j]? = some d → w.cell? ⟨g, o + j, none⟩ = some (bv d)) (hb : ∀ d ∈ bs, d < 256) (hl : bs.length ≤ 140737488355328)
    (hd : bs[i]? = some d0) (hdL : (d0 : Int) - 64 = -(L : Int)) (hL1 : 1 ≤ L) : Calls Tryz.prog 146 #[.slice (some ⟨g, o, none⟩) bs.length cap, .int .i64 i] w (NUA bs i w) := by
  have HT : Hid (∀ k, k = min L (min 8 (bs.length - (i + 1))) → NUP bs i (macc (((bs.drop (i + 1)).take k).map (255 - ·))) (i + 1 + L)) := fun k hk => nup_neg bs d0 L i k hd hdL hL1 hk
  have hilt : i < bs.length := (List.getElem?_eq_some_iff.1 hd).1
  have hcell := hc i d0 hd
  have hd256 : d0 < 256 := hb d0 (List.mem_of_getElem? hd)
  have HC : Hid _ := hc
  have HB256 : Hid _ := hb
  have hili : (i : Int) < (bs.length : Int) := by omega
  have hL256 : L < 256 := by omega
  clear hc hb hd
  go_enter Tryz.func146, Tryz.ntmps146
  go_wp2
  go_loopw [8, 9, 10] (fun m k _ W => ∃ j : Nat, j ≤ L ∧ j ≤ 8 ∧ j ≤ bs.length - (i + 1) ∧ k = .int .i64 ((j : Int) + 1) ∧ m = .int .i64 (macc (((bs.drop (i + 1)).take j).map (255 - ·))) ∧ W = w) (fun _ k _ _ => 9 - (RowKit.intOf k).toNat)
  case atStart => exact ⟨0, Nat.zero_le _, by omega, Nat.zero_le _, rfl, rfl, rfl⟩
  case round =>
    obtain ⟨j, hj, hj8, hjl, rfl, rfl, rfl⟩ := hrel
    by_cases h1 : j < L
    · have h1i : (j : Int) + 1 ≤ L := by omega
      by_cases h2 : i + 1 + j < bs.length
      · have h2i : (i : Int) + ((j : Int) + 1) < (bs.length : Int) := by omega
        by_cases h3 : j < 8
        · have h3i : (j : Int) + 1 ≤ 8 := by omega
          obtain ⟨d, hdj⟩ : ∃ d, bs[i + (j + 1)]? = some d := ⟨_, List.getElem?_eq_getElem (by omega)⟩
          have hcj := HC.out (i + (j + 1)) d hdj
          have hd2 : d < 256 := HB256.out d (List.mem_of_getElem? hdj)
          have hsub : (bs.drop (i + 1)).take (j + 1) = (bs.drop (i + 1)).take j ++ [d] := by
            rw [List.take_add_one, List.getElem?_drop, show i + 1 + j = i + (j + 1) by omega, hdj]; rfl
          have hacc : macc (((bs.drop (i + 1)).take (j + 1)).map (255 - ·)) = mstep (macc (((bs.drop (i + 1)).take j).map (255 - ·))) (255 - d) := by rw [hsub, List.map_append, List.map_singleton, macc_snoc]
          have HA : Hid _ := hacc
          have hR := macc_r64 (((bs.drop (i + 1)).take j).map (255 - ·))
          clear hsub hacc hdj
          generalize macc (((bs.drop (i + 1)).take j).map (255 - ·)) = M at HA hR
          have HR : Hid _ := hR
          clear hR
          have hcast : (((255 - d : Nat)) : Int) = 255 - (d : Int) := by omega
          have HCa : Hid _ := hcast
          clear hcast
          go_wp2
          go_roundw
          case rel => exact ⟨j + 1, by omega, by omega, by omega, by go_num, by rw [HA.out]; unfold mstep; rw [HCa.out], trivial⟩
          case measure => simp [RowKit.intOf]; omega
        · have h3i : ¬ (j : Int) + 1 ≤ 8 := by omega
          have HJ : Hid (NUP bs i (macc (((bs.drop (i + 1)).take j).map (255 - ·))) (i + 1 + L)) := HT.out j (by omega)
          clear HT
          have HM : Hid _ := macc_r64 (((bs.drop (i + 1)).take j).map (255 - ·))
          generalize macc (((bs.drop (i + 1)).take j).map (255 - ·)) = M at HJ HM
          go_wp2
          go_ret2
          exact ⟨_, i + 1 + L, by simp, HM.out, HJ.out, by omega, rfl⟩
      · have h2i : ¬ (i : Int) + ((j : Int) + 1) < (bs.length : Int) := by omega
        have HJ : Hid (NUP bs i (macc (((bs.drop (i + 1)).take j).map (255 - ·))) (i + 1 + L)) := HT.out j (by omega)
        clear HT
        have HM : Hid _ := macc_r64 (((bs.drop (i + 1)).take j).map (255 - ·))
        generalize macc (((bs.drop (i + 1)).take j).map (255 - ·)) = M at HJ HM
        go_wp2
        go_ret2
        exact ⟨_, i + 1 + L, by simp, HM.out, HJ.out, by omega, rfl⟩
    · have h1i : ¬ (j : Int) + 1 ≤ L := by omega
      have HJ : Hid (NUP bs i (macc (((bs.drop (i + 1)).take j).map (255 - ·))) (i + 1 + L)) := HT.out j (by omega)
      clear HT
      have HM : Hid _ := macc_r64 (((bs.drop (i + 1)).take j).map (255 - ·))
      generalize macc (((bs.drop (i + 1)).take j).map (255 - ·)) = M at HJ HM
      go_wp2
      go_ret2
      exact ⟨_, i + 1 + L, by simp, HM.out, HJ.out, by omega, rfl⟩
/-- number at every row and place. -/
theorem nu_any (x : Value) (bs : List Nat) (i : Nat) (w : World) (hx : RowB w x bs) (hb : ∀ d ∈ bs, d < 256) (hl : bs.length ≤ 140737488355328) (hi : i ≤ 140737488355328) : Calls Tryz.prog 146 #[x, .int .i64 i] w (NUA bs i w) := by
  obtain ⟨p, cap, rfl, hcap, hc⟩ := hx
  by_cases h : bs.length ≤ i
  · exact nu_out p cap i bs w hl hi h
  obtain ⟨d0, hd⟩ : ∃ d0, bs[i]? = some d0 := ⟨_, List.getElem?_eq_getElem (by omega)⟩
  obtain ⟨g, o, rfl, _⟩ := hc i d0 hd
  have hc' : ∀ i d, bs[i]? = some d → w.cell? ⟨g, o + i, none⟩ = some (bv d) := fun i d hi => by
    obtain ⟨g', o', he, h2⟩ := hc i d hi
    cases he; exact h2
  by_cases hs : d0 < 64
  · exact nu_neg g o cap d0 (64 - d0) i bs w hc' hb hl hd (by omega) (by omega)
  · exact nu_pos g o cap d0 (d0 - 64) i bs w hc' hb hl hd (by omega)
end Go.Proofs.YtficmpaeochcgaaGreatDoor
