/- Wire: bits, read. -/
import Derived.Test.YtcdjjmjhdoanlaaGreatDoorW21
import Derived.Laws.BytesArg
import Derived.Lib.Bytes
namespace Go.Proofs.YtcdjjmjhdoanlaaGreatDoor
section
open Go.RowKit

/-- A count as a signed number. -/
def zag (n : Nat) : Int := if n % 2 = 0 then (n / 2 : Nat) else -((n / 2 : Nat) : Int) - 1
theorem zag_R (n : Nat) (h : n < 18446744073709551616) : R64 (zag n) := by unfold zag; split <;> constructor <;> omega
theorem and_one (n : Nat) (h : n < 18446744073709551616) : bits .and .u64 (n : Int) 1 = ((n % 2 : Nat) : Int) := by
  have h1 : (BitVec.ofInt 64 (n : Int)).toNat = n := by
    rw [BitVec.ofInt_natCast, BitVec.toNat_ofNat]; exact Nat.mod_eq_of_lt (by omega)
  have h2 : (BitVec.ofInt 64 (1 : Int)).toNat = 1 := by decide
  show IntKind.u64.wrap ((BitVec.ofInt 64 (n : Int) &&& BitVec.ofInt 64 (1 : Int)).toNat : Int) = _
  rw [BitVec.toNat_and, h1, h2, Nat.and_one_is_mod, IntKind.wrap_u64]
  omega
theorem zag_bits (n : Nat) (h : n < 18446744073709551616) : bits .xor .i64 (wrap64 ((n : Int) / 2)) (wrap64 (-wrap64 (bits .and .u64 (n : Int) 1))) = zag n := by
  rw [and_one n h]
  have e1 : wrap64 ((n : Int) / 2) = ((n / 2 : Nat) : Int) := by unfold wrap64; omega
  have h1 : (BitVec.ofInt 64 ((n / 2 : Nat) : Int)).toNat = n / 2 := by
    rw [BitVec.ofInt_natCast, BitVec.toNat_ofNat]; exact Nat.mod_eq_of_lt (by omega)
  rw [e1]
  unfold zag
  split
  · rename_i h0
    have e2 : wrap64 (-wrap64 ((n % 2 : Nat) : Int)) = 0 := by rw [h0]; kernel_rfl
    have h2 : (BitVec.ofInt 64 (0 : Int)).toNat = 0 := by decide
    rw [e2]
    show IntKind.i64.wrap ((BitVec.ofInt 64 ((n / 2 : Nat) : Int) ^^^ BitVec.ofInt 64 (0 : Int)).toNat : Int) = _
    rw [BitVec.toNat_xor, h1, h2, Nat.xor_zero, IntKind.wrap_i64]
    omega
  · rename_i h0
    have h0' : n % 2 = 1 := by omega
    have e2 : wrap64 (-wrap64 ((n % 2 : Nat) : Int)) = -1 := by rw [h0']; kernel_rfl
    have h2 : (BitVec.ofInt 64 (-1 : Int)).toNat = 18446744073709551615 := by decide
    rw [e2]
    show IntKind.i64.wrap ((BitVec.ofInt 64 ((n / 2 : Nat) : Int) ^^^ BitVec.ofInt 64 (-1 : Int)).toNat : Int) = _
    rw [BitVec.toNat_xor, h1, h2, xor_ones _ (by omega), IntKind.wrap_i64]
    omega
/-- A signed number, read. -/
def pz (l : List Nat) : Option (Int × List Nat) := (pc l).map fun x => (zag x.1, x.2)
theorem pz_no (s : Option (List Nat)) (hp : s.bind pc = none) : s.bind pz = none := by
  cases s with
  | none => rfl
  | some l => show (pc l).map _ = none; rw [show pc l = none from hp]; rfl
/-- A text's bytes, read. -/
def px (l : List Nat) : Option (List Nat × List Nat) := (pc l).bind fun x => ptk x.1 x.2
set_option maxRecDepth 100000 in
set_option maxHeartbeats 1000000 in
theorem number2_any (N : Nat) (w : World) (b : Nat) (s : Option (List Nat)) (h : Sc N w b s) :
    Calls Tryz.prog 45 #[ptr b] w (GetP N pz (fun _ v n => v = I n ∧ R64 n) (fun _ v => v = I 0) b w s) := by
  have KC := hide (count2_any N w b s h)
  clear h
  go_enter Tryz.func45, Tryz.ntmps45
  go_wp2_with fail
  refine KC.out.mono ?_
  rintro e w1 ⟨v1, rfl, hc1, ⟨n, l', hp, hs1, rfl⟩ | ⟨hp, hs1, rfl⟩⟩
  · have hn : n < 18446744073709551616 := by
      cases s with
      | none => cases hp
      | some l => exact pc_lt hp
    have HF : Hid (GetP N pz (fun _ v n => v = I n ∧ R64 n) (fun _ v => v = I 0) b w s (.returned (I (zag n))) w1) := ⟨_, rfl, hc1, .inl ⟨zag n, l', by
      cases s with
      | none => cases hp
      | some l => show (pc l).map _ = _; rw [show pc l = some (n, l') from hp]; rfl, hs1, rfl, zag_R n hn⟩⟩
    have HZ := hide (zag_bits n hn)
    clear hc1 hp hs1 KC hn
    go_wp2_with fail
    rw [HZ.out]
    go_ret
    exact HF.out
  · have HF : Hid (GetP N pz (fun _ v n => v = I n ∧ R64 n) (fun _ v => v = I 0) b w s (.returned (I 0)) w1) := ⟨_, rfl, hc1, .inr ⟨pz_no s hp, hs1, rfl⟩⟩
    have HZ : Hid (bits .xor .i64 0 (wrap64 (-wrap64 (bits .and .u64 0 1))) = 0) := by
      have := zag_bits 0 (by decide)
      have e : wrap64 ((0 : Nat) / 2 : Int) = 0 := by kernel_rfl
      rw [e] at this
      exact this
    clear hc1 hp hs1 KC
    go_wp2_with fail
    rw [HZ.out]
    go_ret
    exact HF.out
/-- A row of bytes as a string. -/
def strOf (l : List Nat) : ByteArray := ⟨(l.map UInt8.ofNat).toArray⟩
theorem bys_strOf (l : List Nat) (h : By l) : bys (strOf l) = l := by
  unfold bys strOf
  simp only [List.map_map]
  apply List.ext_getElem?
  intro i
  rw [List.getElem?_map]
  cases e : l[i]? with
  | none => rfl
  | some x =>
    have hx := h x (List.mem_of_getElem? e)
    simp [Nat.mod_eq_of_lt hx]
theorem strOf_bys (s : ByteArray) : strOf (bys s) = s := by
  obtain ⟨d⟩ := s
  unfold strOf bys
  have e : (d.toList.map UInt8.toNat).map UInt8.ofNat = d.toList := by
    rw [List.map_map]
    conv => rhs; rw [← List.map_id d.toList]
    refine List.map_congr_left fun u _ => ?_
    simp
  simp only [e, Array.toArray_toList]
theorem row_str {w : World} {x : Value} {xs : List Nat} (h : Rb w x xs) : (convert 23 9 x).run Tryz.prog w = .ok (.string (strOf xs)) w := by
  have es : strOf xs = strOfNums (xs.map fun d : Nat => (d : Int)) := by
    unfold strOf strOfNums
    rw [List.map_map]
    congr 2
  rw [es]
  obtain ⟨p, cap, rfl, hcap, hn, hc⟩ := h
  cases xs with
  | nil =>
    cases p with
    | none =>
      have e : strOfNums (([] : List Nat).map fun d : Nat => (d : Int)) = ByteArray.empty := rfl
      rw [e]
      exact run_convert_bytes_nil w 23 5 Tryz.underlying23 Tryz.underlying5 0 cap 9 Tryz.underlying9
    | some a =>
      have e : strOfNums (([] : List Nat).map fun d : Nat => (d : Int)) = ByteArray.empty := rfl
      rw [e]
      have h := run_convert_bytes_string (P := Tryz.prog) w 23 9 5 (some a) 0 cap Tryz.underlying23 Tryz.underlying5 Tryz.underlying9
      refine h.trans ?_
      simp [Conv.bytesToString, loadCells, loadCellsFrom]
  | cons d xs =>
    obtain ⟨g, o, cs, rfl, hcell⟩ := hc 0 d rfl
    refine run_convert_bytes_arg w 23 5 Tryz.underlying23 Tryz.underlying5 g o _ cap ((d :: xs).map fun d : Nat => (d : Int)) (by simp) (fun i hi => ?_) 9 Tryz.underlying9
    obtain ⟨e, he⟩ : ∃ e, (d :: xs)[i]? = some e := ⟨_, List.getElem?_eq_getElem hi⟩
    have h2 := Rb.at (cap := cap) (n := (d :: xs).length) ⟨_, cap, rfl, hcap, hn, hc⟩ he
    rw [h2, List.getD, List.getElem?_map, he]
    rfl
/-- A text, read. -/
def pt (l : List Nat) : Option (ByteArray × List Nat) := (px l).map fun x => (strOf x.1, x.2)
theorem px_no1 (s : Option (List Nat)) (hp : s.bind pc = none) : s.bind pt = none := by
  cases s with
  | none => rfl
  | some l => show (((pc l).bind _).map _) = none; rw [show pc l = none from hp]; rfl
theorem px_no2 (s : Option (List Nat)) (n : Nat) (l' : List Nat) (hp : s.bind pc = some (n, l')) (h2 : ptk n l' = none) : s.bind pt = none := by
  cases s with
  | none => cases hp
  | some l => show (((pc l).bind _).map _) = none; rw [show pc l = some (n, l') from hp]; show ((ptk n l').map _) = none; rw [h2]; rfl
theorem px_yes (s : Option (List Nat)) (n : Nat) (l' : List Nat) (x l2 : List Nat) (hp : s.bind pc = some (n, l')) (h2 : ptk n l' = some (x, l2)) : s.bind pt = some (strOf x, l2) := by
  cases s with
  | none => cases hp
  | some l => show (((pc l).bind _).map _) = _; rw [show pc l = some (n, l') from hp]; show ((ptk n l').map _) = _; rw [h2]; rfl
set_option maxRecDepth 100000 in
set_option maxHeartbeats 1000000 in
theorem text2_any (N : Nat) (w : World) (b : Nat) (s : Option (List Nat)) (h : Sc N w b s) :
    Calls Tryz.prog 46 #[ptr b] w (GetP N pt (fun _ v t => v = .string t) (fun _ v => v = .string { data := #[] }) b w s) := by
  have KC := hide (count2_any N w b s h)
  clear h
  go_enter Tryz.func46, Tryz.ntmps46
  go_wp2_with fail
  refine KC.out.mono ?_
  rintro e w1 ⟨v1, rfl, hc1, ⟨n, l', hp, hs1, rfl⟩ | ⟨hp, hs1, rfl⟩⟩
  · have hn : n < 18446744073709551616 := by
      cases s with
      | none => cases hp
      | some l => exact pc_lt hp
    have KT := hide (take_any N w1 b (some l') n hs1 hn)
    have HH := hide (And.intro hc1 hp)
    clear hc1 hp hs1 KC hn
    go_wp2_with fail
    refine KT.out.mono ?_
    rintro e w2 ⟨v2, rfl, hc2, ⟨x, l2, hp2, hs2, hr2, hb2⟩ | ⟨hp2, hs2, rfl⟩⟩
    · have hcv := row_str hr2
      have HF : Hid (GetP N pt (fun _ v t => v = .string t) (fun _ v => v = .string { data := #[] }) b w s (.returned (.string (strOf x))) w2) := ⟨_, rfl, HH.out.1.trans hc2, .inl ⟨_, l2, px_yes s n l' x l2 HH.out.2 hp2, hs2, rfl⟩⟩
      obtain ⟨p3, c3, e3⟩ := hr2.form
      subst e3
      clear hc2 hp2 hs2 hr2 hb2 KT HH
      go_wp2_with fail
      go_ret
      exact HF.out
    · have HF : Hid (GetP N pt (fun _ v t => v = .string t) (fun _ v => v = .string { data := #[] }) b w s (.returned (.string { data := #[] })) w2) := ⟨_, rfl, HH.out.1.trans hc2, .inr ⟨px_no2 s n l' HH.out.2 hp2, hs2, rfl⟩⟩
      have hcv := row_str (Row.nil eB.rel w2)
      have e0 : strOf [] = { data := #[] } := rfl
      rw [e0] at hcv
      clear hc2 hp2 hs2 KT HH e0
      go_wp2_with fail
      go_ret
      exact HF.out
  · have KT := hide (take_any N w1 b none 0 hs1 (by decide))
    have HH := hide (And.intro hc1 hp)
    clear hc1 hp hs1 KC
    go_wp2_with fail
    refine KT.out.mono ?_
    rintro e w2 ⟨v2, rfl, hc2, ⟨x, l2, hp2, _⟩ | ⟨hp2, hs2, rfl⟩⟩
    · cases hp2
    · have HF : Hid (GetP N pt (fun _ v t => v = .string t) (fun _ v => v = .string { data := #[] }) b w s (.returned (.string { data := #[] })) w2) := ⟨_, rfl, HH.out.1.trans hc2, .inr ⟨px_no1 s HH.out.2, hs2, rfl⟩⟩
      have hcv := row_str (Row.nil eB.rel w2)
      have e0 : strOf [] = { data := #[] } := rfl
      rw [e0] at hcv
      clear hc2 hp2 hs2 KT HH e0
      go_wp2_with fail
      go_ret
      exact HF.out
end
open Go.RowKit

/-- The i-th bit. -/
def bitOf (l : List Nat) (i : Nat) : Bool := decide (l.getD (i / 8) 0 / 2 ^ (7 - i % 8) % 2 = 1)
theorem and_bit (v k : Nat) (hv : v < 256) (hk : k < 8) : (bits .and .u8 (v : Int) (128 / 2 ^ k) != 0) = decide (v / 2 ^ (7 - k) % 2 = 1) :=
  (by decide +kernel : ∀ v : Fin 256, ∀ k : Fin 8, (bits .and .u8 (v.val : Int) (128 / 2 ^ k.val) != 0) = decide (v.val / 2 ^ (7 - k.val) % 2 = 1)) ⟨v, hv⟩ ⟨k, hk⟩
set_option maxRecDepth 100000 in
set_option maxHeartbeats 1000000 in
theorem isset_any (l : List Nat) (v : Value) (i : Nat) (W : World) (h : Rb W v l) (hb : By l) (hi : i < 8 * l.length) (hl : l.length ≤ 2097152) :
    Calls Tryz.prog 78 #[v, .int .u64 i] W fun e W' => e = .returned (.bool (bitOf l i)) ∧ W' = W := by
  have hlt : i / 8 < l.length := by omega
  obtain ⟨x, hx⟩ : ∃ x, l[i / 8]? = some x := ⟨_, List.getElem?_eq_getElem hlt⟩
  obtain ⟨g, o, c, rfl⟩ := h.addr (by omega)
  have x1 := Rb.at h hx
  have hx256 := hb x (List.mem_of_getElem? hx)
  have ea := and_bit x (i % 8) hx256 (by omega)
  have eb : bitOf l i = decide (x / 2 ^ (7 - i % 8) % 2 = 1) := by unfold bitOf; rw [List.getD_eq_getElem?_getD, hx]; rfl
  rw [eb, ← ea]
  obtain ⟨jj, hjj⟩ : ∃ jj, jj = i / 8 := ⟨_, rfl⟩
  obtain ⟨kk, hkk⟩ : ∃ kk, kk = i % 8 := ⟨_, rfl⟩
  rw [← hjj] at x1 hlt
  rw [← hkk]
  have f1 : (i : Int) / 8 = (jj : Int) := by omega
  have f2 : (i : Int) % 8 = (kk : Int) := by omega
  have f3 : IntKind.u64.wrap (jj : Int) = (jj : Int) := by rw [IntKind.wrap_u64]; omega
  have f4 : (jj : Int) < (l.length : Int) := by omega
  have f5 : 0 ≤ (jj : Int) := by omega
  have f6 : (i : Int).tdiv 8 = (jj : Int) := by rw [Int.tdiv_eq_ediv_of_nonneg (by omega)]; exact f1
  have f7 : (i : Int).tmod 8 = (kk : Int) := by rw [Int.tmod_eq_emod_of_nonneg (by omega)]; exact f2
  clear h hb hi hl hx hx256 ea eb hjj hkk
  go_enter Tryz.func78, Tryz.ntmps78
  go_wp2_with fail
  go_ret
  exact ⟨rfl, rfl⟩
/-- What is left over is 0, as far as i. -/
def okk (l : List Nat) (n i : Nat) : Bool := (List.range (i - n)).all fun j => !bitOf l (n + j)
def bitsL (l : List Nat) (n : Nat) : List Bool := (List.range n).map (bitOf l)
def pb (l : List Nat) : Option (List Bool × List Nat) := (pc l).bind fun x => if 4096 < x.1 then none else (ptk ((x.1 + 7) / 8) x.2).bind fun y => if okk y.1 x.1 (8 * y.1.length) then some (bitsL y.1 x.1, y.2) else none
theorem okk_self (l : List Nat) (n : Nat) : okk l n n = true := by simp [okk]
theorem okk_step (l : List Nat) (n i : Nat) (h : n ≤ i) : okk l n (i + 1) = (okk l n i && !bitOf l i) := by
  unfold okk
  rw [show i + 1 - n = (i - n) + 1 by omega, List.range_succ, List.all_append]
  simp only [List.all_cons, List.all_nil, Bool.and_true]
  rw [show n + (i - n) = i by omega]
theorem pb_no1 (s : Option (List Nat)) (hp : s.bind pc = none) : s.bind pb = none := by
  cases s with
  | none => rfl
  | some l => show ((pc l).bind _) = none; rw [show pc l = none from hp]; rfl
theorem pb_no2 (s : Option (List Nat)) (n : Nat) (l' : List Nat) (hp : s.bind pc = some (n, l')) (h2 : 4096 < n) : s.bind pb = none := by
  cases s with
  | none => cases hp
  | some l => show ((pc l).bind _) = none; rw [show pc l = some (n, l') from hp]; show (if 4096 < n then _ else _) = _; rw [if_pos h2]
theorem pb_no3 (s : Option (List Nat)) (n : Nat) (l' : List Nat) (hp : s.bind pc = some (n, l')) (h2 : ¬ 4096 < n) (h3 : ptk ((n + 7) / 8) l' = none) : s.bind pb = none := by
  cases s with
  | none => cases hp
  | some l => show ((pc l).bind _) = none; rw [show pc l = some (n, l') from hp]; show (if 4096 < n then _ else _) = _; rw [if_neg h2]; show ((ptk ((n + 7) / 8) l').bind _) = none; rw [h3]; rfl
theorem pb_is (s : Option (List Nat)) (n : Nat) (l' x l2 : List Nat) (hp : s.bind pc = some (n, l')) (h2 : ¬ 4096 < n) (h3 : ptk ((n + 7) / 8) l' = some (x, l2)) : s.bind pb = if okk x n (8 * x.length) then some (bitsL x n, l2) else none := by
  cases s with
  | none => cases hp
  | some l => show ((pc l).bind _) = _; rw [show pc l = some (n, l') from hp]; show (if 4096 < n then _ else _) = _; rw [if_neg h2]; show ((ptk ((n + 7) / 8) l').bind _) = _; rw [h3]; rfl
/-- The bools so far. -/
def bzC (l : List Nat) (n k : Nat) : List Value := (List.range n).map fun i => .bool (decide (i < k) && bitOf l i)
theorem bzC_len (l : List Nat) (n k : Nat) : (bzC l n k).length = n := by simp [bzC]
theorem bzC_at (l : List Nat) (n k i : Nat) (h : i < n) : (bzC l n k)[i]? = some (.bool (decide (i < k) && bitOf l i)) := by
  rw [bzC, List.getElem?_map, List.getElem?_range h]; rfl
theorem bzC_zero (l : List Nat) (n : Nat) : bzC l n 0 = List.replicate n (.bool false) := by
  apply List.ext_getElem?
  intro j
  by_cases h : j < n
  · rw [bzC_at _ _ _ _ h, List.getElem?_replicate, if_pos h]; simp
  · rw [List.getElem?_eq_none (by rw [bzC_len]; omega), List.getElem?_eq_none (by simp; omega)]
theorem bzC_set (l : List Nat) (n k : Nat) : (bzC l n k).set k (.bool (bitOf l k)) = bzC l n (k + 1) := by
  apply List.ext_getElem?
  intro j
  by_cases hj : j < n
  · rw [bzC_at _ _ _ _ hj]
    by_cases e : k = j
    · subst e; rw [List.getElem?_set_self (by rw [bzC_len]; exact hj)]; simp
    · rw [List.getElem?_set_ne e, bzC_at _ _ _ _ hj]
      have : decide (j < k) = decide (j < k + 1) := by
        by_cases c : j < k
        · rw [decide_eq_true c, decide_eq_true (by omega)]
        · rw [decide_eq_false c, decide_eq_false (by omega)]
      rw [this]
  · rw [List.getElem?_eq_none (by rw [List.length_set, bzC_len]; omega), List.getElem?_eq_none (by rw [bzC_len]; omega)]
theorem made_bz (n : Nat) : madeCells (Value.bool false).cells n = (List.replicate n (Value.bool false)).toArray := by
  unfold madeCells
  apply Array.ext
  · simp
  · intro i h1 h2
    simp only [Array.getElem_map, Array.getElem_range, List.getElem_toArray, List.getElem_replicate]
    have : i % (Value.bool false).cells.size = 0 := Nat.mod_one _
    rw [this]
    rfl
theorem bz_row (l : List Nat) (n : Nat) (w : World) (g : Nat) (h : Blk w g 4 (bzC l n n)) (hn : n ≤ maxLen) : Sw eZ 4 w (.slice (some ⟨g, 0, none⟩) n n) (bitsL l n) := by
  have hl : (bitsL l n).length = n := by simp [bitsL]
  have e : eZ.fl (bitsL l n) = bzC l n n := by
    unfold bitsL bzC Enc.fl
    rw [List.flatMap_map]
    have : ∀ m, m ≤ n → ((List.range m).flatMap fun a => eZ.e (bitOf l a)) = (List.range m).map fun i => Value.bool (decide (i < n) && bitOf l i) := fun m => by
      induction m with
      | zero => intro _; rfl
      | succ m ih =>
        intro hm
        rw [List.range_succ, List.flatMap_append, List.map_append, ih (by omega)]
        congr 1
        simp [show m < n by omega]
    exact this n (Nat.le_refl _)
  refine .inr ⟨g, n, [], by rw [hl], by rw [e, List.append_nil]; exact h, by rw [hl]; simp, by rw [hl]; exact Nat.le_refl _, hn⟩
theorem info_Z2 : ∃ i, Tryz.prog.info? 4 = some i ∧ i.zero = some (.bool false) ∧ i.size = 1 ∧ i.bytes = 1 := info_parts (by kernel_rfl)
set_option maxRecDepth 100000 in
set_option maxHeartbeats 1000000 in
theorem bits2_any (N : Nat) (w : World) (b : Nat) (s : Option (List Nat)) (h : Sc N w b s) :
    Calls Tryz.prog 47 #[ptr b] w (GetP N pb (fun w_ v l => Sw eZ 4 w_ v l ∧ Fresh w v) (fun _ v => ∃ a n c, v = .slice a n c) b w s) := by
  have KC := hide (count2_any N w b s h)
  clear h
  go_enter Tryz.func47, Tryz.ntmps47
  go_wp2_with fail
  refine KC.out.mono ?_
  rintro e w1 ⟨v1, rfl, hc1, ⟨n, l', hp, hs1, rfl⟩ | ⟨hp, hs1, rfl⟩⟩
  · by_cases hn : 4096 < n
    · have i1 : (4096 : Int) < (n : Int) := by omega
      have hsp := hs1.spoil
      have hn64 : n < 18446744073709551616 := by cases s with | none => cases hp | some l => exact pc_lt hp
      obtain ⟨m, hm, hm64⟩ : ∃ m : Nat, IntKind.u64.wrap ((IntKind.u64.wrap ((n : Int) + 7)).tdiv 8) = (m : Int) ∧ m < 18446744073709551616 := ⟨((n + 7) % 18446744073709551616) / 8, by rw [IntKind.wrap_u64, IntKind.wrap_u64, Int.tdiv_eq_ediv_of_nonneg (by omega)]; omega, by omega⟩
      have KT := hide (take_any N _ b none m hsp.1 hm64)
      have HH := hide (And.intro (hc1.trans hsp.2) (pb_no2 s n l' hp hn))
      obtain ⟨p2, n2, c2, b1⟩ := hs1.bad
      have k1 := b1.cell
      have k2 := b1.frozen
      have HM := hide hm
      clear hc1 hp hs1 KC hsp b1 hn hn64 hm64 hm
      go_wp2_with fail
      rw [HM.out]
      refine KT.out.mono ?_
      rintro e w2 ⟨v2, rfl, hc2, ⟨x, l2, hp2, _⟩ | ⟨hp2, hs2, rfl⟩⟩
      · cases hp2
      · have HF : Hid (GetP N pb (fun w_ v l => Sw eZ 4 w_ v l ∧ Fresh w v) (fun _ v => ∃ a n c, v = .slice a n c) b w s (.returned (.slice none 0 0)) w2) := ⟨_, rfl, HH.out.1.trans hc2, .inr ⟨HH.out.2, hs2, _, _, _, rfl⟩⟩
        obtain ⟨p3, n3, c3, b3⟩ := hs2.bad
        have k3 := b3.cell
        simp only [Option.isNone_none] at k3
        clear hc2 hp2 hs2 b3 KT HH
        go_wp2_with fail
        go_ret
        exact HF.out
    · have i1 : ¬ (4096 : Int) < (n : Int) := by omega
      have hm : IntKind.u64.wrap ((IntKind.u64.wrap ((n : Int) + 7)).tdiv 8) = (((n + 7) / 8 : Nat) : Int) := by rw [IntKind.wrap_u64, IntKind.wrap_u64, Int.tdiv_eq_ediv_of_nonneg (by omega)]; omega
      have KT := hide (take_any N w1 b (some l') ((n + 7) / 8) hs1 (by omega))
      have HH := hide (And.intro hc1 (And.intro hp hn))
      have HM := hide hm
      clear hc1 hp hs1 KC hn hm
      go_wp2_with fail
      try rw [HM.out]
      refine KT.out.mono ?_
      rintro e w2 ⟨v2, rfl, hc2, ⟨x, l2, hp2, hs2, hr2, hb2⟩ | ⟨hp2, hs2, rfl⟩⟩
      · obtain ⟨hc1, hp, hn⟩ := HH.out
        have hpb := pb_is s n l' x l2 hp hn hp2
        have hxl : x.length = (n + 7) / 8 := by
          have h2 : (if (n + 7) / 8 ≤ l'.length then some (l'.take ((n + 7) / 8), l'.drop ((n + 7) / 8)) else none) = some (x, l2) := hp2
          split at h2
          · injection h2 with h2
            injection h2 with h3 h4
            rw [← h3, List.length_take]; omega
          · cases h2
        obtain ⟨p3, n3, c3, b3⟩ := hs2.bad
        have k3 := b3.cell
        simp only [Option.isNone_some] at k3
        have HPB := hide hpb
        have HC := hide (hc1.trans hc2)
        have HS := hide hs2
        have HRB := hide (And.intro hr2 hb2)
        have HX := hide (And.intro hxl hn)
        obtain ⟨px, cx, ex⟩ := hr2.form
        subst ex
        obtain ⟨m, hm⟩ : ∃ m, m = x.length := ⟨_, rfl⟩
        have HML := hide hm
        have i2 : (n : Int) ≤ (m : Int) * 8 := by omega
        have i3 : m ≤ 512 := by omega
        clear hc1 hp hn hc2 hp2 hs2 hr2 hb2 b3 hxl hpb KT HH
        rw [← hm] at HRB ⊢
        clear hm
        have HI := hide (And.intro i2 i3)
        have HSC : ∀ (wr : World), Cb b w2 wr → Hid (Rb wr (.slice px m cx) x) := fun wr hch => by
          obtain ⟨p4, n4, c4, b4⟩ := HS.out.bad
          exact HRB.out.1.chgb b4 (sl_ne _ _ _) hch
        go_wp2_with fail
        go_loopw [5] (fun iv wr => ∃ i : Nat, iv = .int .u64 i ∧ n ≤ i ∧ i ≤ 8 * m ∧ Sc N wr b (if okk x n i then some l2 else none) ∧ Cb b w2 wr) (fun iv _ => 8 * m - (RowKit.intOf iv).toNat)
        case atStart => exact ⟨n, rfl, Nat.le_refl _, by have := HI.out.1; omega, by rw [okk_self]; exact HS.out, Chg.refl _ _⟩
        case round =>
          obtain ⟨i, rfl, hni, him, hs, hch⟩ := hrel
          clear k3
          have hrw := HSC wr hch
          have m3 := HI.out.2
          have u8 : IntKind.u64.wrap ((m : Int) * 8) = (m : Int) * 8 := by rw [IntKind.wrap_u64]; omega
          have u9 : IntKind.u64.wrap (m : Int) = (m : Int) := by rw [IntKind.wrap_u64]; omega
          by_cases hlt : i < 8 * m
          · have i4 : (i : Int) < (m : Int) * 8 := by omega
            have KI := hide (isset_any x _ i wr hrw.out HRB.out.2 (by rw [← HML.out]; exact hlt) (by rw [← HML.out]; omega))
            have hst := okk_step x n i hni
            have HW : Hid (IntKind.u64.wrap ((i : Int) + 1) = (i : Int) + 1) := by show _ = _; rw [IntKind.wrap_u64]; omega
            have HL := hide (And.intro hlt hni)
            have hsp := hs.spoil
            obtain ⟨p5, n5, c5, b5⟩ := hs.bad
            have k5 := b5.cell
            have f5 := b5.frozen
            cases hbit : bitOf x i with
            | true =>
              rw [hbit] at KI hst
              have HF : Hid (Sc N (wr.setCell ⟨b, 1, none⟩ (.bool true)) b (if okk x n (i + 1) then some l2 else none) ∧ Cb b w2 (wr.setCell ⟨b, 1, none⟩ (.bool true))) := ⟨by rw [hst]; simpa using hsp.1, hch.trans hsp.2⟩
              clear hs hch hrw hst hsp b5 hbit hlt hni him m3
              go_wp2_with fail
              refine KI.out.mono ?_
              rintro e w5 ⟨rfl, rfl⟩
              clear KI
              go_wp2_with fail
              try rw [HW.out]
              refine ⟨⟨i + 1, rfl, by have := HL.out.2; omega, HL.out.1, HF.out.1, HF.out.2⟩, ?_⟩
              simp only [RowKit.intOf]; have := HL.out.1; omega
            | false =>
              rw [hbit] at KI hst
              have HF : Hid (Sc N wr b (if okk x n (i + 1) then some l2 else none) ∧ Cb b w2 wr) := ⟨by rw [hst]; simpa using hs, hch⟩
              clear hs hch hrw hst hsp b5 hbit hlt hni him m3
              go_wp2_with fail
              refine KI.out.mono ?_
              rintro e w5 ⟨rfl, rfl⟩
              clear KI
              go_wp2_with fail
              try rw [HW.out]
              refine ⟨⟨i + 1, rfl, by have := HL.out.2; omega, HL.out.1, HF.out.1, HF.out.2⟩, ?_⟩
              simp only [RowKit.intOf]; have := HL.out.1; omega
          · have i4 : ¬ (i : Int) < (m : Int) * 8 := by omega
            have ei : i = 8 * m := by omega
            rw [ei] at hs
            obtain ⟨i0, hi, hz0, hz1, hz2⟩ := info_Z2
            have hn4 := HX.out.2
            have hmk := run_make (P := Tryz.prog) wr 31 4 i0 (.bool false) Tryz.underlying31 hi hz0 .u64 .u64 (n : Int) (n : Int) (by omega) (by omega) (by rw [hz2]; omega) (by omega)
            rw [hz1, Nat.mul_one, Int.toNat_natCast, made_bz, ← bzC_zero x n] at hmk
            have HMK := hide hmk
            have HBZ := hide (Blk.new wr (bzC x n 0) 4)
            have HSR := hide (And.intro hs hch)
            have HRR := hide hrw.out
            have HGA := hide ((G.refl wr).alloc (.cells (bzC x n 0).toArray 4))
            clear hs hch hrw hlt hni him m3 ei hi hz0 hz1 hz2 hmk hn4
            go_wp2_with fail
            rw [HMK.out]
            obtain ⟨w6, hw6⟩ : ∃ w6, w6 = wr := ⟨wr, rfl⟩
            rw [← hw6] at HBZ HSR HRR HGA ⊢
            obtain ⟨w7, hw7⟩ : ∃ w7, w7 = w6.alloc (.cells (bzC x n 0).toArray 4) := ⟨_, rfl⟩
            rw [← hw7] at HBZ HGA ⊢
            clear hw6 hw7 HMK i4 u8 u9
            go_wp2_with fail
            go_loopw [42, 7] (fun kv _ wr => ∃ k : Nat, kv = .int .u64 k ∧ k ≤ n ∧ Blk wr w6.heap.size 4 (bzC x n k) ∧ G w6 wr) (fun kv _ _ => n - (RowKit.intOf kv).toNat)
            case atStart => exact ⟨0, rfl, Nat.zero_le _, HBZ.out, HGA.out⟩
            case round =>
              obtain ⟨k, rfl, hk, hB, hg⟩ := hrel
              clear HBZ HGA
              have hn4 := HX.out.2
              by_cases hkn : k < n
              · have i5 : (k : Int) < (n : Int) := by omega
                have hx8 := HX.out.1
                have KI := hide (isset_any x _ k wr (HRR.out.G hg) HRB.out.2 (by rw [hx8]; omega) (by rw [hx8]; omega))
                have kc := (hB.cell k).trans (bzC_at x n k k hkn)
                have kf := hB.frozen k
                have HF : Hid (Blk (wr.setCell ⟨w6.heap.size, k, none⟩ (.bool (bitOf x k))) w6.heap.size 4 (bzC x n (k + 1)) ∧ G w6 (wr.setCell ⟨w6.heap.size, k, none⟩ (.bool (bitOf x k)))) := ⟨by rw [← bzC_set]; exact hB.set k _, hg.setCell (Nat.le_refl _) _⟩
                have HW : Hid (IntKind.u64.wrap ((k : Int) + 1) = (k : Int) + 1) := by show _ = _; rw [IntKind.wrap_u64]; omega
                have HL := hide hkn
                have f6 : IntKind.u64.wrap (k : Int) = (k : Int) := by rw [IntKind.wrap_u64]; omega
                generalize (decide (k < k) && bitOf x k) = zz at kc
                generalize bitOf x k = yy at KI HF
                clear hk hB hg hkn hx8 hn4
                go_wp2_with fail
                refine KI.out.mono ?_
                rintro e w8 ⟨rfl, rfl⟩
                clear KI
                go_wp2_with fail
                try rw [HW.out]
                refine ⟨⟨k + 1, rfl, HL.out, HF.out.1, HF.out.2⟩, ?_⟩
                simp only [RowKit.intOf]; have := HL.out; omega
              · have i5 : ¬ (k : Int) < (n : Int) := by omega
                have ek : k = n := by omega
                rw [ek] at hB
                have hrow := bz_row x n wr w6.heap.size hB (Nat.le_trans (Nat.not_lt.1 hn4) (of_decide_eq_true (by kernel_rfl)))
                obtain ⟨hs6, hch6⟩ := HSR.out
                have HF : Hid (GetP N pb (fun w_ v l => Sw eZ 4 w_ v l ∧ Fresh w v) (fun _ v => ∃ a n c, v = .slice a n c) b w s (.returned (.slice (some ⟨w6.heap.size, 0, none⟩) n n)) wr) := by
                  refine ⟨_, rfl, HC.out.trans (hch6.trans hg.chg), ?_⟩
                  have hpb := HPB.out
                  rw [← HML.out] at hpb
                  cases hok : okk x n (8 * m) with
                  | true =>
                    rw [hok] at hpb hs6
                    exact .inl ⟨bitsL x n, l2, by simpa using hpb, by simpa using hs6.G hg, hrow, fun kk hkk => by simp [Value.ownBlock] at hkk; have := (HC.out.trans hch6).size; omega⟩
                  | false =>
                    rw [hok] at hpb hs6
                    exact .inr ⟨by simpa using hpb, by simpa using hs6.G hg, _, _, _, rfl⟩
                clear hk hB hg hkn hn4 ek hrow hs6 hch6
                go_wp2_with fail
                go_ret
                exact HF.out
      · obtain ⟨hc1, hp, hn⟩ := HH.out
        have HF : Hid (GetP N pb (fun w_ v l => Sw eZ 4 w_ v l ∧ Fresh w v) (fun _ v => ∃ a n c, v = .slice a n c) b w s (.returned (.slice none 0 0)) w2) := ⟨_, rfl, hc1.trans hc2, .inr ⟨pb_no3 s n l' hp hn hp2, hs2, _, _, _, rfl⟩⟩
        obtain ⟨p3, n3, c3, b3⟩ := hs2.bad
        have k3 := b3.cell
        simp only [Option.isNone_none] at k3
        clear hc1 hp hn hc2 hp2 hs2 b3 KT HH
        go_wp2_with fail
        go_ret
        exact HF.out
  · have KT := hide (take_any N w1 b none 0 hs1 (by decide))
    have HH := hide (And.intro hc1 (pb_no1 s hp))
    clear hc1 hp hs1 KC
    go_wp2_with fail
    refine KT.out.mono ?_
    rintro e w2 ⟨v2, rfl, hc2, ⟨x, l2, hp2, _⟩ | ⟨hp2, hs2, rfl⟩⟩
    · cases hp2
    · have HF : Hid (GetP N pb (fun w_ v l => Sw eZ 4 w_ v l ∧ Fresh w v) (fun _ v => ∃ a n c, v = .slice a n c) b w s (.returned (.slice none 0 0)) w2) := ⟨_, rfl, HH.out.1.trans hc2, .inr ⟨HH.out.2, hs2, _, _, _, rfl⟩⟩
      obtain ⟨p3, n3, c3, b3⟩ := hs2.bad
      have k3 := b3.cell
      simp only [Option.isNone_none] at k3
      clear hc2 hp2 hs2 b3 KT HH
      go_wp2_with fail
      go_ret
      exact HF.out
end Go.Proofs.YtcdjjmjhdoanlaaGreatDoor
