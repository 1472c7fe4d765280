/- value.takeWhole. -/
import Derived.Test.YtdiikofgilplkaaDoorDec0
import Derived.Test.YtdiikofgilplkaaDoorEnc5
namespace Go.Proofs.YtdiikofgilplkaaDoor
open Go.RowKit Go.Shelf Go.PlainAid Go.Lib

theorem or_u64 (M d : Nat) (hM : M < 72057594037927936) (hd : d < 256) : bits .or .u64 (IntKind.u64.wrap ((M : Int) * 256)) (IntKind.u64.wrap (d : Int)) = ((M * 256 + d : Nat) : Int) := by
  have e1 : IntKind.u64.wrap ((M : Int) * 256) = ((M * 256 : Nat) : Int) := by rw [IntKind.wrap_u64]; omega
  have e2 : IntKind.u64.wrap (d : Int) = (d : Int) := by rw [IntKind.wrap_u64]; omega
  rw [e1, e2]
  have h1 : (BitVec.ofInt 64 ((M * 256 : Nat) : Int)).toNat = M * 256 := by rw [BitVec.toNat_ofInt]; omega
  have h2 : (BitVec.ofInt 64 (d : Int)).toNat = d := by rw [BitVec.toNat_ofInt]; omega
  show IntKind.u64.wrap ((BitVec.ofInt 64 ((M * 256 : Nat) : Int) ||| BitVec.ofInt 64 (d : Int)).toNat : Int) = _
  rw [BitVec.toNat_or, h1, h2]
  have h3 : M * 256 ||| d = M * 256 + d := by
    have := Nat.shiftLeft_add_eq_or_of_lt (b := d) (i := 8) (by omega) M
    rw [Nat.shiftLeft_eq] at this
    exact this.symm
  rw [h3, IntKind.wrap_u64]
  omega
theorem xor0 (d : Nat) (h : d < 256) : bits .xor .u8 (d : Int) 0 = (d : Int) := by
  have : ∀ n : Fin 256, bits .xor .u8 (n.val : Int) 0 = (n.val : Int) := by decide +kernel
  exact this ⟨d, h⟩
theorem xor255 (d : Nat) (h : d < 256) : bits .xor .u8 (d : Int) 255 = ((255 - d : Nat) : Int) := by
  have : ∀ n : Fin 256, bits .xor .u8 (n.val : Int) 255 = ((255 - n.val : Nat) : Int) := by decide +kernel
  exact this ⟨d, h⟩
/-- The number and what stands behind it, where such bytes stand there. -/
def TWP (bs : List Nat) (n : Int) (ts : List Nat) : Prop := ∀ n0 rest, R64 n0 → bs = encW n0 ++ rest → n = n0 ∧ ts = rest
/-- What takeWhole answers. -/
def TWA (bs : List Nat) (w : World) (e : Ending) (w' : World) : Prop := ∃ (n : Int) (t : Value) (ts : List Nat), e = .returned (.tuple #[.int .i64 n, t]) ∧ R64 n ∧ RowB w t ts ∧ TWP bs n ts ∧ (∀ d ∈ ts, d < 256) ∧ ts.length ≤ bs.length ∧ G w w'
theorem row_nil (w : World) : RowB w (.slice none 0 0) [] := ⟨none, 0, rfl, Nat.le_refl _, fun i d h => by simp at h⟩
theorem r64_wrap (x : Int) : R64 (wrap64 x) := by
  unfold R64 wrap64; omega
/-- A part of a row. -/
theorem row_from {w : World} {g o cap k : Nat} {bs : List Nat} (hcap : bs.length ≤ cap) (hk : k ≤ bs.length) (hc : ∀ i d, bs[i]? = some d → w.cell? ⟨g, o + i, none⟩ = some (bv d)) : RowB w (.slice (some ⟨g, o + k, none⟩) (bs.length - k) (cap - k)) (bs.drop k) :=
  ⟨_, cap - k, by rw [List.length_drop], by rw [List.length_drop]; omega, fun i d hi => ⟨g, o + k, rfl, by
    rw [Nat.add_assoc]
    rw [List.getElem?_drop] at hi
    exact hc _ d hi⟩⟩
theorem enc_neg {n : Int} (h : n < 0) : 0 < (lowB n).length := by
  unfold lowB
  rw [List.length_map]
  have : n.natAbs ≠ 0 := by omega
  rw [digs_pos this]; simp
theorem twp_pos (bs : List Nat) (d0 L : Nat) (hd : bs[0]? = some d0) (hdL : (d0 : Int) - 64 = (L : Int)) : TWP bs (wrap64 ((acc ((bs.drop 1).take L) : Nat) : Int)) (bs.drop (1 + L)) := by
  intro n0 rest hr he
  obtain ⟨h1, h2, h3⟩ := enc_split he
  have hl8 := low_len n0 hr.1 hr.2
  rw [hd] at h1
  have h1 := Option.some.inj h1
  by_cases hn : n0 < 0
  · rw [if_pos hn] at h1
    have := enc_neg hn
    omega
  · rw [if_neg hn] at h1
    have hLL : (lowB n0).length = L := by omega
    rw [hLL] at h2 h3
    refine ⟨?_, h3⟩
    rw [h2]
    have hb := low_back n0
    have hf : (lowB n0).reverse = (lowB n0).reverse.map (flipB n0) := by
      conv => lhs; rw [← List.map_id (lowB n0).reverse]
      exact List.map_congr_left fun x _ => by unfold flipB; rw [if_neg hn]; rfl
    rw [hf, hb, acc_digs]
    unfold wrap64
    have := hr.2
    omega
set_option maxRecDepth 100000 in
set_option maxHeartbeats 2000000 in
theorem tw_pos (g o cap d0 L : Nat) (bs : List Nat) (w : World) (hcap : bs.length ≤ cap) (hc : ∀ i d, bs[i]? = some d → w.cell? ⟨g, o + i, none⟩ = some (bv d)) (hb : ∀ d ∈ bs, d < 256) (hl : bs.length ≤ 140737488355328)
    (hd : bs[0]? = some d0) (hdL : (d0 : Int) - 64 = (L : Int)) (hL8 : L ≤ 8) (hLl : 1 + L ≤ bs.length) (hc1 : ¬ cap = 1) : Calls Tryd.prog 42 #[.slice (some ⟨g, o, none⟩) bs.length cap] w (TWA bs w) := by
  have HT : Hid _ := twp_pos bs d0 L hd hdL
  have hcell := hc 0 d0 hd
  rw [Nat.add_zero] at hcell
  have HC : Hid _ := hc
  have HB256 : Hid _ := hb
  have hd256 : d0 < 256 := hb d0 (List.mem_of_getElem? hd)
  have hne : (bs.length : Int) ≠ 0 := by omega
  have hleni : (0 : Int) < (bs.length : Int) := by omega
  have hLi : ((L : Nat) : Int) ≤ (bs.length : Int) - 1 := by omega
  have hLi8 : ((L : Nat) : Int) ≤ 8 := by omega
  have hcapL : 1 + L ≤ cap := by omega
  clear hc hb hd
  go_enter Tryd.func42, Tryd.ntmps42
  go_wp2
  go_loopw [6, 8, 35] (fun m _ i W => ∃ j : Nat, j ≤ L ∧ i = .int .i64 j ∧ m = .int .u64 ((acc ((bs.drop 1).take j) : Nat) : Int) ∧ W = w) (fun _ _ i _ => L - (RowKit.intOf i).toNat)
  case atStart => exact ⟨0, Nat.zero_le _, rfl, rfl, rfl⟩
  case round =>
    obtain ⟨j, hj, rfl, rfl, rfl⟩ := hrel
    by_cases hlt : j < L
    · obtain ⟨d, hdj⟩ : ∃ d, bs[1 + j]? = some d := ⟨_, List.getElem?_eq_getElem (by omega)⟩
      have hcj := HC.out (1 + j) d hdj
      rw [← Nat.add_assoc] at hcj
      have hji : (j : Int) < L := by omega
      have hd2 : d < 256 := HB256.out d (List.mem_of_getElem? hdj)
      have hsub : (bs.drop 1).take (j + 1) = (bs.drop 1).take j ++ [d] := by
        rw [List.take_add_one, List.getElem?_drop, hdj]; rfl
      have hacc : acc ((bs.drop 1).take (j + 1)) = acc ((bs.drop 1).take j) * 256 + (d) := by rw [hsub, acc_snoc]
      have hM : acc ((bs.drop 1).take j) < 72057594037927936 := by
        have h1 := acc_lt ((bs.drop 1).take j) (fun x hx => by exact HB256.out x (List.mem_of_mem_drop (List.mem_of_mem_take hx)))
        have h2 : ((bs.drop 1).take j).length ≤ 7 := by simp; omega
        exact Nat.lt_of_lt_of_le h1 (Nat.pow_le_pow_right (by decide) h2)
      have HA : Hid _ := hacc
      have HO : Hid _ := or_u64 (acc ((bs.drop 1).take j)) (d) hM (by omega)
      have HX : Hid _ := xor0 d hd2
      clear hsub hacc hdj hM
      generalize acc ((bs.drop 1).take j) = M at HA HO
      go_wp2
      go_roundw
      case rel => exact ⟨j + 1, by omega, by go_num, by rw [HX.out, HO.out, HA.out], trivial⟩
      case measure => simp [RowKit.intOf]; omega
    · have e : j = L := by omega
      subst e
      have hji : ¬ (j : Int) < (j : Int) := by omega
      obtain ⟨MM, hMM⟩ : ∃ MM, acc ((bs.drop 1).take j) = MM := ⟨_, rfl⟩
      rw [hMM] at HT ⊢
      clear hMM
      have HR : Hid _ := row_from hcap hLl HC.out
      by_cases hce : cap = 1 + j
      · have hbe : bs.length = 1 + j := by omega
        have HR0 : Hid (RowB wr (.slice (some ⟨g, o, none⟩) (1 + j - (1 + j)) (1 + j - (1 + j))) (bs.drop (1 + j))) := by
          rw [List.drop_of_length_le (by omega), Nat.sub_self]
          exact ⟨_, 0, rfl, Nat.le_refl _, fun i d h => by simp at h⟩
        subst hce
        clear HR
        go_wp2
        go_quiet (fail)
        go_wp2
        go_ret2
        exact ⟨_, _, bs.drop (1 + j), rfl, r64_wrap _, HR0.out, HT.out, fun d hd' => HB256.out d (List.mem_of_mem_drop hd'), by rw [List.length_drop]; omega, by repeat (first | exact G.refl _ | refine G.drewNE ?_ _ | refine G.drew ?_)⟩
      · go_wp2
        go_quiet (fail)
        go_wp2
        go_ret2
        exact ⟨_, _, bs.drop (1 + j), rfl, r64_wrap _, HR.out, HT.out, fun d hd' => HB256.out d (List.mem_of_mem_drop hd'), by rw [List.length_drop]; omega, by repeat (first | exact G.refl _ | refine G.drewNE ?_ _ | refine G.drew ?_)⟩
theorem twp_neg (bs : List Nat) (d0 L : Nat) (hd : bs[0]? = some d0) (hdL : (d0 : Int) - 64 = -(L : Int)) (hL1 : 1 ≤ L) : TWP bs (wrap64 (IntKind.u64.wrap (-((acc (((bs.drop 1).take L).map (255 - ·)) : Nat) : Int)))) (bs.drop (1 + L)) := by
  intro n0 rest hr he
  obtain ⟨h1, h2, h3⟩ := enc_split he
  have hl8 := low_len n0 hr.1 hr.2
  rw [hd] at h1
  have h1 := Option.some.inj h1
  by_cases hn : n0 < 0
  · rw [if_pos hn] at h1
    have hLL : (lowB n0).length = L := by omega
    rw [hLL] at h2 h3
    refine ⟨?_, h3⟩
    rw [h2]
    have hb := low_back n0
    have hf : (lowB n0).reverse.map (255 - ·) = (lowB n0).reverse.map (flipB n0) := List.map_congr_left fun x _ => by unfold flipB; rw [if_pos hn]
    rw [hf, hb, acc_digs, IntKind.wrap_u64]
    unfold wrap64
    have := hr.1
    omega
  · rw [if_neg hn] at h1
    omega
set_option maxRecDepth 100000 in
set_option maxHeartbeats 2000000 in
theorem tw_neg (g o cap d0 L : Nat) (bs : List Nat) (w : World) (hcap : bs.length ≤ cap) (hc : ∀ i d, bs[i]? = some d → w.cell? ⟨g, o + i, none⟩ = some (bv d)) (hb : ∀ d ∈ bs, d < 256) (hl : bs.length ≤ 140737488355328)
    (hd : bs[0]? = some d0) (hdL : (d0 : Int) - 64 = -(L : Int)) (hL1 : 1 ≤ L) (hL8 : L ≤ 8) (hLl : 1 + L ≤ bs.length) (hc1 : ¬ cap = 1) : Calls Tryd.prog 42 #[.slice (some ⟨g, o, none⟩) bs.length cap] w (TWA bs w) := by
  have HT : Hid _ := twp_neg bs d0 L hd hdL hL1
  have hcell := hc 0 d0 hd
  rw [Nat.add_zero] at hcell
  have HC : Hid _ := hc
  have HB256 : Hid _ := hb
  have hd256 : d0 < 256 := hb d0 (List.mem_of_getElem? hd)
  have hne : (bs.length : Int) ≠ 0 := by omega
  have hleni : (0 : Int) < (bs.length : Int) := by omega
  have hLi : ((L : Nat) : Int) ≤ (bs.length : Int) - 1 := by omega
  have hLi8 : ((L : Nat) : Int) ≤ 8 := by omega
  have hcapL : 1 + L ≤ cap := by omega
  clear hc hb hd
  go_enter Tryd.func42, Tryd.ntmps42
  go_wp2
  go_loopw [6, 8, 35] (fun m _ i W => ∃ j : Nat, j ≤ L ∧ i = .int .i64 j ∧ m = .int .u64 ((acc (((bs.drop 1).take j).map (255 - ·)) : Nat) : Int) ∧ W = w) (fun _ _ i _ => L - (RowKit.intOf i).toNat)
  case atStart => exact ⟨0, Nat.zero_le _, rfl, rfl, rfl⟩
  case round =>
    obtain ⟨j, hj, rfl, rfl, rfl⟩ := hrel
    by_cases hlt : j < L
    · obtain ⟨d, hdj⟩ : ∃ d, bs[1 + j]? = some d := ⟨_, List.getElem?_eq_getElem (by omega)⟩
      have hcj := HC.out (1 + j) d hdj
      rw [← Nat.add_assoc] at hcj
      have hji : (j : Int) < L := by omega
      have hd2 : d < 256 := HB256.out d (List.mem_of_getElem? hdj)
      have hsub : (bs.drop 1).take (j + 1) = (bs.drop 1).take j ++ [d] := by
        rw [List.take_add_one, List.getElem?_drop, hdj]; rfl
      have hacc : acc (((bs.drop 1).take (j + 1)).map (255 - ·)) = acc (((bs.drop 1).take j).map (255 - ·)) * 256 + (255 - d) := by rw [hsub, List.map_append, List.map_singleton, acc_snoc]
      have hM : acc (((bs.drop 1).take j).map (255 - ·)) < 72057594037927936 := by
        have h1 := acc_lt (((bs.drop 1).take j).map (255 - ·)) (fun x hx => by obtain ⟨y, _, rfl⟩ := List.mem_map.1 hx; omega)
        have h2 : (((bs.drop 1).take j).map (255 - ·)).length ≤ 7 := by simp; omega
        exact Nat.lt_of_lt_of_le h1 (Nat.pow_le_pow_right (by decide) h2)
      have HA : Hid _ := hacc
      have HO : Hid _ := or_u64 (acc (((bs.drop 1).take j).map (255 - ·))) (255 - d) hM (by omega)
      have HX : Hid _ := xor255 d hd2
      clear hsub hacc hdj hM
      generalize acc (((bs.drop 1).take j).map (255 - ·)) = M at HA HO
      go_wp2
      go_roundw
      case rel => exact ⟨j + 1, by omega, by go_num, by rw [HX.out, HO.out, HA.out], trivial⟩
      case measure => simp [RowKit.intOf]; omega
    · have e : j = L := by omega
      subst e
      have hji : ¬ (j : Int) < (j : Int) := by omega
      obtain ⟨MM, hMM⟩ : ∃ MM, acc (((bs.drop 1).take j).map (255 - ·)) = MM := ⟨_, rfl⟩
      rw [hMM] at HT ⊢
      clear hMM
      have HR : Hid _ := row_from hcap hLl HC.out
      by_cases hce : cap = 1 + j
      · have hbe : bs.length = 1 + j := by omega
        have HR0 : Hid (RowB wr (.slice (some ⟨g, o, none⟩) (1 + j - (1 + j)) (1 + j - (1 + j))) (bs.drop (1 + j))) := by
          rw [List.drop_of_length_le (by omega), Nat.sub_self]
          exact ⟨_, 0, rfl, Nat.le_refl _, fun i d h => by simp at h⟩
        subst hce
        clear HR
        go_wp2
        go_quiet (fail)
        go_wp2
        go_ret2
        exact ⟨_, _, bs.drop (1 + j), rfl, r64_wrap _, HR0.out, HT.out, fun d hd' => HB256.out d (List.mem_of_mem_drop hd'), by rw [List.length_drop]; omega, by repeat (first | exact G.refl _ | refine G.drewNE ?_ _ | refine G.drew ?_)⟩
      · go_wp2
        go_quiet (fail)
        go_wp2
        go_ret2
        exact ⟨_, _, bs.drop (1 + j), rfl, r64_wrap _, HR.out, HT.out, fun d hd' => HB256.out d (List.mem_of_mem_drop hd'), by rw [List.length_drop]; omega, by repeat (first | exact G.refl _ | refine G.drewNE ?_ _ | refine G.drew ?_)⟩
set_option maxRecDepth 100000 in
set_option maxHeartbeats 2000000 in
theorem twb_pos_a (g o cap d0 L : Nat) (bs : List Nat) (w : World) (hl : bs.length ≤ 140737488355328) (hcell : w.cell? ⟨g, o, none⟩ = some (bv d0)) (hd256 : d0 < 256) (hlen : 0 < bs.length) (hdL : (d0 : Int) - 64 = (L : Int)) (hbig : (8 : Int) < L) (HT : Hid (TWP bs 0 [])) : Calls Tryd.prog 42 #[.slice (some ⟨g, o, none⟩) bs.length cap] w (TWA bs w) := by
  have hne : (bs.length : Int) ≠ 0 := by omega
  have hleni : (0 : Int) < (bs.length : Int) := by omega
  go_enter Tryd.func42, Tryd.ntmps42
  go_wp2
  go_ret2
  exact ⟨0, _, [], rfl, by unfold R64; omega, row_nil w, HT.out, by simp, by simp, G.refl _⟩
set_option maxRecDepth 100000 in
set_option maxHeartbeats 2000000 in
theorem twb_pos_b (g o cap d0 L : Nat) (bs : List Nat) (w : World) (hl : bs.length ≤ 140737488355328) (hcell : w.cell? ⟨g, o, none⟩ = some (bv d0)) (hd256 : d0 < 256) (hlen : 0 < bs.length) (hdL : (d0 : Int) - 64 = (L : Int)) (hbig : ¬ (8 : Int) < L) (hb2 : (bs.length : Int) - 1 < L) (HT : Hid (TWP bs 0 [])) : Calls Tryd.prog 42 #[.slice (some ⟨g, o, none⟩) bs.length cap] w (TWA bs w) := by
  have hne : (bs.length : Int) ≠ 0 := by omega
  have hleni : (0 : Int) < (bs.length : Int) := by omega
  go_enter Tryd.func42, Tryd.ntmps42
  go_wp2
  go_ret2
  exact ⟨0, _, [], rfl, by unfold R64; omega, row_nil w, HT.out, by simp, by simp, G.refl _⟩
set_option maxRecDepth 100000 in
set_option maxHeartbeats 2000000 in
theorem twb_neg_a (g o cap d0 L : Nat) (bs : List Nat) (w : World) (hl : bs.length ≤ 140737488355328) (hcell : w.cell? ⟨g, o, none⟩ = some (bv d0)) (hd256 : d0 < 256) (hlen : 0 < bs.length) (hdL : (d0 : Int) - 64 = -(L : Int)) (hL1 : 1 ≤ L) (hbig : (8 : Int) < L) (HT : Hid (TWP bs 0 [])) : Calls Tryd.prog 42 #[.slice (some ⟨g, o, none⟩) bs.length cap] w (TWA bs w) := by
  have hne : (bs.length : Int) ≠ 0 := by omega
  have hleni : (0 : Int) < (bs.length : Int) := by omega
  go_enter Tryd.func42, Tryd.ntmps42
  go_wp2
  go_ret2
  exact ⟨0, _, [], rfl, by unfold R64; omega, row_nil w, HT.out, by simp, by simp, G.refl _⟩
set_option maxRecDepth 100000 in
set_option maxHeartbeats 2000000 in
theorem twb_neg_b (g o cap d0 L : Nat) (bs : List Nat) (w : World) (hl : bs.length ≤ 140737488355328) (hcell : w.cell? ⟨g, o, none⟩ = some (bv d0)) (hd256 : d0 < 256) (hlen : 0 < bs.length) (hdL : (d0 : Int) - 64 = -(L : Int)) (hL1 : 1 ≤ L) (hbig : ¬ (8 : Int) < L) (hb2 : (bs.length : Int) - 1 < L) (HT : Hid (TWP bs 0 [])) : Calls Tryd.prog 42 #[.slice (some ⟨g, o, none⟩) bs.length cap] w (TWA bs w) := by
  have hne : (bs.length : Int) ≠ 0 := by omega
  have hleni : (0 : Int) < (bs.length : Int) := by omega
  go_enter Tryd.func42, Tryd.ntmps42
  go_wp2
  go_ret2
  exact ⟨0, _, [], rfl, by unfold R64; omega, row_nil w, HT.out, by simp, by simp, G.refl _⟩
set_option maxRecDepth 100000 in
set_option maxHeartbeats 2000000 in
theorem tw_one (g o : Nat) (bs : List Nat) (w : World) (hcell : w.cell? ⟨g, o, none⟩ = some (bv 64)) (hlen : bs.length = 1) (HT : Hid (TWP bs 0 [])) : Calls Tryd.prog 42 #[.slice (some ⟨g, o, none⟩) bs.length 1] w (TWA bs w) := by
  rw [hlen]
  go_enter Tryd.func42, Tryd.ntmps42
  go_wp2
  go_loopw [6, 8, 35] (fun m _ i W => i = .int .i64 0 ∧ m = .int .u64 0 ∧ W = w) (fun _ _ i _ => 0)
  case atStart => exact ⟨rfl, rfl, rfl⟩
  case round =>
    obtain ⟨rfl, rfl, rfl⟩ := hrel
    go_wp2
    go_quiet (fail)
    go_wp2
    go_ret2
    exact ⟨0, _, [], rfl, by unfold R64; omega, ⟨_, 0, rfl, Nat.le_refl _, fun i d h => by simp at h⟩, HT.out, by simp, by simp, by repeat (first | exact G.refl _ | refine G.drewNE ?_ _ | refine G.drew ?_)⟩
set_option maxRecDepth 100000 in
set_option maxHeartbeats 2000000 in
theorem tw_nil (p : Option Addr) (cap : Nat) (bs : List Nat) (w : World) (h0 : bs.length = 0) (HT : Hid (TWP bs 0 [])) : Calls Tryd.prog 42 #[.slice p bs.length cap] w (TWA bs w) := by
  rw [h0]
  go_enter Tryd.func42, Tryd.ntmps42
  go_wp2
  go_ret2
  exact ⟨0, _, [], rfl, by unfold R64; omega, row_nil w, HT.out, by simp, by simp, G.refl _⟩
theorem twp_no (bs : List Nat) (d0 : Nat) (hd : bs[0]? = some d0) (h : ∀ L : Nat, (d0 : Int) - 64 = L ∨ (d0 : Int) - 64 = -(L : Int) → 8 < L ∨ bs.length < 1 + L) : TWP bs 0 [] := by
  intro n0 rest hr he
  exfalso
  have h1 := (enc_split he).1
  have hl8 := low_len n0 hr.1 hr.2
  rw [hd] at h1
  have h1 := Option.some.inj h1
  have hll := congrArg List.length he
  simp [encW] at hll
  by_cases hn : n0 < 0
  · rw [if_pos hn] at h1
    have := h (lowB n0).length (.inr (by omega))
    omega
  · rw [if_neg hn] at h1
    have := h (lowB n0).length (.inl (by omega))
    omega
/-- takeWhole at every row. -/
theorem tw_any (x : Value) (bs : List Nat) (w : World) (hx : RowB w x bs) (hb : ∀ d ∈ bs, d < 256) (hl : bs.length ≤ 140737488355328) : Calls Tryd.prog 42 #[x] w (TWA bs w) := by
  obtain ⟨p, cap, rfl, hcap, hc⟩ := hx
  by_cases h0 : bs.length = 0
  · exact tw_nil p cap bs w h0 (fun n0 rest _ he => by rw [he] at h0; simp [encW] at h0)
  obtain ⟨d0, hd⟩ : ∃ d0, bs[0]? = some d0 := ⟨_, List.getElem?_eq_getElem (by omega)⟩
  have hd256 : d0 < 256 := hb d0 (List.mem_of_getElem? hd)
  obtain ⟨g, o, rfl, hcell⟩ := hc 0 d0 hd
  rw [Nat.add_zero] at hcell
  have hc' : ∀ i d, bs[i]? = some d → w.cell? ⟨g, o + i, none⟩ = some (bv d) := fun i d hi => by
    obtain ⟨g', o', he, h2⟩ := hc i d hi
    cases he; exact h2
  by_cases hs : d0 < 64
  · obtain ⟨L, hL⟩ : ∃ L : Nat, (d0 : Int) - 64 = -(L : Int) := ⟨64 - d0, by omega⟩
    by_cases h8 : 8 < L
    · exact twb_neg_a g o cap d0 L bs w hl hcell hd256 (by omega) hL (by omega) (by omega) (twp_no bs d0 hd fun L' h => by omega)
    · by_cases h2 : bs.length < 1 + L
      · exact twb_neg_b g o cap d0 L bs w hl hcell hd256 (by omega) hL (by omega) (by omega) (by omega) (twp_no bs d0 hd fun L' h => by omega)
      · exact tw_neg g o cap d0 L bs w hcap hc' hb hl hd hL (by omega) (by omega) (by omega) (by omega)
  · obtain ⟨L, hL⟩ : ∃ L : Nat, (d0 : Int) - 64 = (L : Int) := ⟨d0 - 64, by omega⟩
    by_cases h8 : 8 < L
    · exact twb_pos_a g o cap d0 L bs w hl hcell hd256 (by omega) hL (by omega) (twp_no bs d0 hd fun L' h => by omega)
    · by_cases h2 : bs.length < 1 + L
      · exact twb_pos_b g o cap d0 L bs w hl hcell hd256 (by omega) hL (by omega) (by omega) (twp_no bs d0 hd fun L' h => by omega)
      · by_cases hc1 : cap = 1
        · subst hc1
          have hd64 : d0 = 64 := by omega
          subst hd64
          have hlen : bs.length = 1 := by omega
          refine tw_one g o bs w hcell hlen ?_
          have hT := twp_pos bs 64 0 hd (by omega)
          rw [List.take_zero, List.drop_of_length_le (by omega)] at hT
          have e0 : wrap64 ((acc [] : Nat) : Int) = 0 := by unfold wrap64 acc; simp
          rw [e0] at hT
          exact hT
        · exact tw_pos g o cap d0 L bs w hcap hc' hb hl hd hL (by omega) (by omega) hc1
end Go.Proofs.YtdiikofgilplkaaDoor
