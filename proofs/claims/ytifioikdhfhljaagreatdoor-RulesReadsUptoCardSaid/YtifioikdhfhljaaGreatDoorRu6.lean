/- Rules: the rule that a node says, the document's words. -/
import Derived.Test.YtifioikdhfhljaaGreatDoorRu5
import Derived.Test.YtifioikdhfhljaaGreatDoorRu4
import Derived.Deep.CutBlock
namespace Go.Proofs.YtifioikdhfhljaaGreatDoor
open Go.RowKit

theorem one8 {cs : List Value} (h : cs.all (fun v => match v with | .int .. => true | .string _ => true | _ => false) = true) {v : Value} (hv : v ∈ cs) : v.oneCell' = true := by
  have := List.all_eq_true.1 h v hv
  cases v <;> first | rfl | (simp at this)
theorem retY (tmps : Array Value) (W : World) (rb : Nat) (cs : List Value) (b : Bool) (hp : tmps.getD 2 undef = .pointer (some ⟨rb, 0, none⟩)) (hc : tmps.getD 3 undef = .bool b) (hr : Blk W rb 66 cs) (hl : cs.length = 8) :
    (results Tryz.f68 tmps).run Tryz.prog W = .ok (.tuple #[.agg cs.toArray, .bool b]) W := by
  rw [results_cell_tmp Tryz.results68, hp, hc]
  have h := run_loadVar_mid (P := Tryz.prog) W rb 0 66 cs _ (by have := hr.range 0 8; rw [List.drop_zero, List.take_of_length_le (by omega)] at this; exact this) Tryz.underlying66 rfl (by rw [hl]; kernel_rfl)
  simp only [asAddr, Sem.run_pure, Result.andThen_ok, h]
theorem tl_kind : ({ data := #[107, 105, 110, 100] } : ByteArray).toList = [107, 105, 110, 100] := by rw [ByteArray.toList_eq]
theorem tl_of : ({ data := #[111, 102] } : ByteArray).toList = [111, 102] := by rw [ByteArray.toList_eq]
theorem tl_key : ({ data := #[107, 101, 121] } : ByteArray).toList = [107, 101, 121] := by rw [ByteArray.toList_eq]
theorem tl_type : ({ data := #[116, 121, 112, 101] } : ByteArray).toList = [116, 121, 112, 101] := by rw [ByteArray.toList_eq]
theorem tl_from : ({ data := #[102, 114, 111, 109] } : ByteArray).toList = [102, 114, 111, 109] := by rw [ByteArray.toList_eq]
theorem tl_to : ({ data := #[116, 111] } : ByteArray).toList = [116, 111] := by rw [ByteArray.toList_eq]
theorem tl_n : ({ data := #[110] } : ByteArray).toList = [110] := by rw [ByteArray.toList_eq]
def saysR1 (id : Int) (kk of ky ty fr dst : ByteArray) (na : Int) : Rl :=
  if kk.toList = [117, 110, 105, 113, 117, 101] then ⟨id, 1, of, ky, 0, { data := #[] }, { data := #[] }, 0⟩
  else if kk.toList = [110, 101, 101, 100, 115] then ⟨id, 2, of, ky, 0, { data := #[] }, { data := #[] }, 0⟩
  else if kk.toList = [111, 110, 108, 121] then ⟨id, 3, of, ky, typeV ty, { data := #[] }, { data := #[] }, 0⟩
  else if kk.toList = [108, 105, 110, 107] then ⟨id, 4, of, { data := #[] }, 0, fr, dst, 0⟩
  else if kk.toList = [109, 111, 115, 116] then ⟨id, 5, of, { data := #[] }, 0, { data := #[] }, { data := #[] }, na⟩
  else if kk.toList = [111, 114, 100, 101, 114] then ⟨id, 6, of, { data := #[] }, 0, { data := #[] }, { data := #[] }, 0⟩
  else ⟨id, 0, of, { data := #[] }, 0, { data := #[] }, { data := #[] }, 0⟩
def saysO1 (kk ty : ByteArray) (by' bt bf bd bn : Bool) (nk na : Int) : Bool :=
  if kk.toList = [117, 110, 105, 113, 117, 101] then by'
  else if kk.toList = [110, 101, 101, 100, 115] then by'
  else if kk.toList = [111, 110, 108, 121] then by' && (bt && decide (typeV ty > 0))
  else if kk.toList = [108, 105, 110, 107] then bf && bd
  else if kk.toList = [109, 111, 115, 116] then bn && ((nk == 2) && decide (na ≥ 0))
  else if kk.toList = [111, 114, 100, 101, 114] then true
  else false
def saysM1 (kk : ByteArray) : Int :=
  if kk.toList = [117, 110, 105, 113, 117, 101] then 1 else if kk.toList = [110, 101, 101, 100, 115] then 1 else if kk.toList = [111, 110, 108, 121] then 2 else if kk.toList = [108, 105, 110, 107] then 2 else if kk.toList = [109, 111, 115, 116] then 1 else 0
set_option maxRecDepth 100000 in
set_option maxHeartbeats 4000000 in
theorem says_not (id : Int) (lb kk of : ByteArray) (bk : Bool) (pa : Option Addr) (pn pc : Nat) (W : World) (HK : Hid (∀ V, G W V → Calls Tryz.prog 104 #[.slice pa pn pc, .string { data := #[107, 105, 110, 100] }] V fun e W' => e = .returned (.tuple #[.string kk, .bool bk]) ∧ G V W')) (HO : Hid (∀ V, G W V → Calls Tryz.prog 105 #[.slice pa pn pc, .string { data := #[111, 102] }] V fun e W' => e = .returned (.tuple #[.string of, .bool false]) ∧ G V W')) : Calls Tryz.prog 68 #[.agg #[I id, .string lb, .slice pa pn pc]] W fun e W' => e = .returned (.tuple #[.agg #[I id, I 0, .string of, .string { data := #[] }, I 0, .string { data := #[] }, .string { data := #[] }, I 0], .bool false]) ∧ G W W' := by
  obtain ⟨w2, hw2⟩ : ∃ w2, w2 = ((W.alloc (.cells #[I id, .string lb, .slice pa pn pc] 69)).alloc (.cells #[I 0, I 0, .string { data := #[] }, .string { data := #[] }, I 0, .string { data := #[] }, .string { data := #[] }, I 0] 66)) := ⟨_, rfl⟩
  obtain ⟨B0, hB0⟩ : ∃ B0, B0 = W.heap.size := ⟨_, rfl⟩
  obtain ⟨rb, hrb⟩ : ∃ rb, rb = B0 + 1 := ⟨_, rfl⟩
  have HGw2 : Hid (G W w2) := by rw [hw2]; exact ((G.refl W).alloc _).alloc _
  have HNw2 : Hid (Blk w2 B0 69 [I id, .string lb, .slice pa pn pc]) := by rw [hw2, hB0]; exact (Blk.new W [I id, .string lb, .slice pa pn pc] 69).G ((G.refl _).alloc _)
  have HRw2 : Hid (Blk w2 rb 66 [I 0, I 0, .string { data := #[] }, .string { data := #[] }, I 0, .string { data := #[] }, .string { data := #[] }, I 0]) := by
    have := Blk.new (W.alloc (.cells #[I id, .string lb, .slice pa pn pc] 69)) [I 0, I 0, .string { data := #[] }, .string { data := #[] }, I 0, .string { data := #[] }, .string { data := #[] }, I 0] 66
    rw [Hid, hw2, hrb, hB0]
    simpa using this
  have HLO : Hid (W.heap.size ≤ rb) := by show _ ≤ _; omega
  have HEW : Hid (((W.alloc (.cells #[I id, .string lb, .slice pa pn pc] 69)).alloc (.cells #[I 0, I 0, .string { data := #[] }, .string { data := #[] }, I 0, .string { data := #[] }, .string { data := #[] }, I 0] 66)) = w2) := hw2.symm
  have HE1 : Hid (W.heap.size = B0) := hB0.symm
  have HE2 : Hid (B0 + 1 = rb) := hrb.symm
  have e0 := ((Blk.new W [I id, .string lb, .slice pa pn pc] 69).G ((G.refl _).alloc (.cells #[I 0, I 0, .string { data := #[] }, .string { data := #[] }, I 0, .string { data := #[] }, .string { data := #[] }, I 0] 66))).cell
  have cN := HNw2.out.cell
  clear hw2 hB0 hrb
  go_enter Tryz.func68, Tryz.ntmps68
  go_wp2_with (first | (rw [HEW.out]; (try rw [HE1.out]); (try rw [HE2.out]); clear HEW e0) | fail)
  try rw [HEW.out]
  try rw [HE1.out]
  try rw [HE2.out]
  clear cN
  refine (HK.out w2 HGw2.out).mono ?_
  rintro e w3 ⟨rfl, hg'⟩
  have HNw3 := hide (HNw2.out.G hg'); have HRw3 := hide (HRw2.out.G hg'); have HGw3 := hide (HGw2.out.trans hg')
  clear hg'
  have cN := HNw3.out.cell
  go_wp2_with fail
  clear cN
  refine (HO.out w3 HGw3.out).mono ?_
  rintro e w4 ⟨rfl, hg'⟩
  have HNw4 := hide (HNw3.out.G hg'); have HRw4 := hide (HRw3.out.G hg'); have HGw4 := hide (HGw3.out.trans hg')
  clear hg'
  obtain ⟨wm, hw⟩ : ∃ w, w = (w4.alloc (.cells #[I id, I 0, .string of, .string { data := #[] }, I 0, .string { data := #[] }, .string { data := #[] }, I 0] 66)) := ⟨_, rfl⟩
  obtain ⟨r8, hr8⟩ : ∃ r, r = w4.heap.size := ⟨_, rfl⟩
  have hg' : G w4 wm := by rw [hw]; exact (G.refl _).alloc _
  have H8m : Hid (Blk wm r8 66 [I id, I 0, .string of, .string { data := #[] }, I 0, .string { data := #[] }, .string { data := #[] }, I 0]) := by rw [Hid, hw, hr8]; exact Blk.new w4 [I id, I 0, .string of, .string { data := #[] }, I 0, .string { data := #[] }, .string { data := #[] }, I 0] 66
  have HNm := hide (HNw4.out.G hg'); have HRm := hide (HRw4.out.G hg'); have HGm := hide (HGw4.out.trans hg')
  have HEX : Hid ((w4.alloc (.cells #[I id, I 0, .string of, .string { data := #[] }, I 0, .string { data := #[] }, .string { data := #[] }, I 0] 66)) = wm) := hw.symm
  have HE8 : Hid (w4.heap.size = r8) := hr8.symm
  have HNE : Hid (B0 ≠ r8 ∧ rb ≠ r8 ∧ W.heap.size ≤ r8 ∧ B0 ≠ rb) := ⟨by have := HNw4.out.lt; omega, by have := HRw4.out.lt; omega, by have := HGw4.out.size; omega, by have := HE2.out; omega⟩
  have cN := HNw4.out.cell
  clear hw hr8 hg'
  have c8 := H8m.out.cell
  have HB7 := hide ((((((((HRm.out.set 0 (I id)).set 1 (I 0)).set 2 (.string of)).set 3 (.string { data := #[] })).set 4 (I 0)).set 5 (.string { data := #[] })).set 6 (.string { data := #[] })).set 7 (I 0))
  have c9 := HRm.out.cell
  have z9 := HRm.out.frozen
  have HG7 : Hid (G W ((((((((wm.setCell ⟨rb, 0, none⟩ (I id)).setCell ⟨rb, 1, none⟩ (I 0)).setCell ⟨rb, 2, none⟩ (.string of)).setCell ⟨rb, 3, none⟩ (.string { data := #[] })).setCell ⟨rb, 4, none⟩ (I 0)).setCell ⟨rb, 5, none⟩ (.string { data := #[] })).setCell ⟨rb, 6, none⟩ (.string { data := #[] })).setCell ⟨rb, 7, none⟩ (I 0))) := ((((((((HGm.out.setCell HLO.out (I id)).setCell HLO.out (I 0)).setCell HLO.out (.string of)).setCell HLO.out (.string { data := #[] })).setCell HLO.out (I 0)).setCell HLO.out (.string { data := #[] })).setCell HLO.out (.string { data := #[] })).setCell HLO.out (I 0))
  go_wp2_with (first | (rw [HEX.out]; (try rw [HE8.out]); clear HEX) | fail)
  exact bodyPost_ret_by (v := .tuple #[.agg #[I id, I 0, .string of, .string { data := #[] }, I 0, .string { data := #[] }, .string { data := #[] }, I 0], .bool false]) (retY _ _ rb _ _ rfl rfl HB7.out rfl) rfl ⟨rfl, HG7.out⟩
set_option maxRecDepth 100000 in
set_option maxHeartbeats 8000000 in
theorem says_yes (id : Int) (lb kk of ky ty fr dst nz : ByteArray) (bk by' bt bf bd bn : Bool) (nk na nb : Int) (pa : Option Addr) (pn pc : Nat) (W : World) (HO : Hid (∀ V, G W V → Calls Tryz.prog 105 #[.slice pa pn pc, .string { data := #[111, 102] }] V fun e W' => e = .returned (.tuple #[.string of, .bool true]) ∧ G V W')) (HK : Hid (∀ V, G W V → Calls Tryz.prog 104 #[.slice pa pn pc, .string { data := #[107, 105, 110, 100] }] V fun e W' => e = .returned (.tuple #[.string kk, .bool bk]) ∧ G V W')) (HY : Hid (∀ V, G W V → Calls Tryz.prog 105 #[.slice pa pn pc, .string { data := #[107, 101, 121] }] V fun e W' => e = .returned (.tuple #[.string ky, .bool by']) ∧ G V W')) (HT : Hid (∀ V, G W V → Calls Tryz.prog 104 #[.slice pa pn pc, .string { data := #[116, 121, 112, 101] }] V fun e W' => e = .returned (.tuple #[.string ty, .bool bt]) ∧ G V W')) (HLF : Hid (∀ V, G W V → Calls Tryz.prog 105 #[.slice pa pn pc, .string { data := #[102, 114, 111, 109] }] V fun e W' => e = .returned (.tuple #[.string fr, .bool bf]) ∧ G V W')) (HLT : Hid (∀ V, G W V → Calls Tryz.prog 105 #[.slice pa pn pc, .string { data := #[116, 111] }] V fun e W' => e = .returned (.tuple #[.string dst, .bool bd]) ∧ G V W')) (HM : Hid (∀ V, G W V → Calls Tryz.prog 107 #[.slice pa pn pc, .string { data := #[110] }] V fun e W' => e = .returned (.tuple #[.agg #[I nk, I na, I nb, .string nz], .bool bn]) ∧ G V W')) (HKN : Hid (∀ V, Calls Tryz.prog 106 #[.string ty] V fun e W' => e = .returned (I (typeV ty)) ∧ W' = V)) : Calls Tryz.prog 68 #[.agg #[I id, .string lb, .slice pa pn pc]] W fun e W' => e = .returned (.tuple #[.agg (eRl.e (saysR1 id kk of ky ty fr dst na)).toArray, .bool (saysO1 kk ty by' bt bf bd bn nk na && ((pn : Int) == 2 + saysM1 kk))]) ∧ G W W' := by
  obtain ⟨ok, hok⟩ : ∃ b, b = saysO1 kk ty by' bt bf bd bn nk na := ⟨_, rfl⟩
  obtain ⟨r, hr⟩ : ∃ r, r = saysR1 id kk of ky ty fr dst na := ⟨_, rfl⟩
  obtain ⟨m, hm⟩ : ∃ m, m = saysM1 kk := ⟨_, rfl⟩
  have HRES : Hid (r = saysR1 id kk of ky ty fr dst na ∧ ok = saysO1 kk ty by' bt bf bd bn nk na ∧ m = saysM1 kk) := ⟨hr, hok, hm⟩
  have HMB : Hid (IntKind.i64.wrap (2 + m) = 2 + m) := by
    have h3 : m = 0 ∨ m = 1 ∨ m = 2 := by
      rw [hm]
      unfold saysM1
      repeat' split
      all_goals simp
    rcases h3 with h3 | h3 | h3 <;> (rw [h3]; rfl)
  rw [← hr, ← hok, ← hm]
  clear hr hok hm
  obtain ⟨w2, hw2⟩ : ∃ w2, w2 = ((W.alloc (.cells #[I id, .string lb, .slice pa pn pc] 69)).alloc (.cells #[I 0, I 0, .string { data := #[] }, .string { data := #[] }, I 0, .string { data := #[] }, .string { data := #[] }, I 0] 66)) := ⟨_, rfl⟩
  obtain ⟨B0, hB0⟩ : ∃ B0, B0 = W.heap.size := ⟨_, rfl⟩
  obtain ⟨rb, hrb⟩ : ∃ rb, rb = B0 + 1 := ⟨_, rfl⟩
  have HGw2 : Hid (G W w2) := by rw [hw2]; exact ((G.refl W).alloc _).alloc _
  have HNw2 : Hid (Blk w2 B0 69 [I id, .string lb, .slice pa pn pc]) := by rw [hw2, hB0]; exact (Blk.new W [I id, .string lb, .slice pa pn pc] 69).G ((G.refl _).alloc _)
  have HRw2 : Hid (Blk w2 rb 66 [I 0, I 0, .string { data := #[] }, .string { data := #[] }, I 0, .string { data := #[] }, .string { data := #[] }, I 0]) := by
    have := Blk.new (W.alloc (.cells #[I id, .string lb, .slice pa pn pc] 69)) [I 0, I 0, .string { data := #[] }, .string { data := #[] }, I 0, .string { data := #[] }, .string { data := #[] }, I 0] 66
    rw [Hid, hw2, hrb, hB0]
    simpa using this
  have HLO : Hid (W.heap.size ≤ rb) := by show _ ≤ _; omega
  have HEW : Hid (((W.alloc (.cells #[I id, .string lb, .slice pa pn pc] 69)).alloc (.cells #[I 0, I 0, .string { data := #[] }, .string { data := #[] }, I 0, .string { data := #[] }, .string { data := #[] }, I 0] 66)) = w2) := hw2.symm
  have HE1 : Hid (W.heap.size = B0) := hB0.symm
  have HE2 : Hid (B0 + 1 = rb) := hrb.symm
  have e0 := ((Blk.new W [I id, .string lb, .slice pa pn pc] 69).G ((G.refl _).alloc (.cells #[I 0, I 0, .string { data := #[] }, .string { data := #[] }, I 0, .string { data := #[] }, .string { data := #[] }, I 0] 66))).cell
  have cN := HNw2.out.cell
  clear hw2 hB0 hrb
  go_enter Tryz.func68, Tryz.ntmps68
  go_wp2_with (first | (rw [HEW.out]; (try rw [HE1.out]); (try rw [HE2.out]); clear HEW e0) | fail)
  try rw [HEW.out]
  try rw [HE1.out]
  try rw [HE2.out]
  clear cN
  refine (HK.out w2 HGw2.out).mono ?_
  rintro e w3 ⟨rfl, hg'⟩
  have HNw3 := hide (HNw2.out.G hg'); have HRw3 := hide (HRw2.out.G hg'); have HGw3 := hide (HGw2.out.trans hg')
  clear hg'
  have cN := HNw3.out.cell
  go_wp2_with fail
  clear cN
  refine (HO.out w3 HGw3.out).mono ?_
  rintro e w4 ⟨rfl, hg'⟩
  have HNw4 := hide (HNw3.out.G hg'); have HRw4 := hide (HRw3.out.G hg'); have HGw4 := hide (HGw3.out.trans hg')
  clear hg'
  obtain ⟨w5, hw⟩ : ∃ w, w = w4.alloc (.cells #[I id, I 0, .string of, .string { data := #[] }, I 0, .string { data := #[] }, .string { data := #[] }, I 0] 66) := ⟨_, rfl⟩
  obtain ⟨r8, hr8⟩ : ∃ r, r = w4.heap.size := ⟨_, rfl⟩
  have hg' : G w4 w5 := by rw [hw]; exact (G.refl _).alloc _
  have H8w5 : Hid (Blk w5 r8 66 [I id, I 0, .string of, .string { data := #[] }, I 0, .string { data := #[] }, .string { data := #[] }, I 0]) := by rw [Hid, hw, hr8]; exact Blk.new w4 [I id, I 0, .string of, .string { data := #[] }, I 0, .string { data := #[] }, .string { data := #[] }, I 0] 66
  have HNw5 := hide (HNw4.out.G hg'); have HRw5 := hide (HRw4.out.G hg'); have HGw5 := hide (HGw4.out.trans hg')
  have HEX : Hid (w4.alloc (.cells #[I id, I 0, .string of, .string { data := #[] }, I 0, .string { data := #[] }, .string { data := #[] }, I 0] 66) = w5) := hw.symm
  have HE8 : Hid (w4.heap.size = r8) := hr8.symm
  have HNE : Hid (B0 ≠ r8 ∧ rb ≠ r8 ∧ W.heap.size ≤ r8 ∧ B0 ≠ rb) := ⟨by have := HNw4.out.lt; omega, by have := HRw4.out.lt; omega, by have := HGw4.out.size; omega, by have := HE2.out; omega⟩
  have cN := HNw4.out.cell
  clear hw hr8 hg' HNw3 HRw3 HGw3 HNw4 HRw4 HGw4 HNw2 HRw2 HGw2
  go_upto_block 0 with fail
  rw [HEX.out, HE8.out]
  clear cN
  go_cut [7, 9] from 10 to 122 (fun v7 v9 V => v7 = .bool ok ∧ v9 = I m ∧ Blk V r8 66 [I r.id, I r.kind, .string r.of, .string r.key, I r.is, .string r.fr, .string r.dst, I r.n] ∧ Blk V B0 69 [I id, .string lb, .slice pa pn pc] ∧ Blk V rb 66 [I 0, I 0, .string { data := #[] }, .string { data := #[] }, I 0, .string { data := #[] }, .string { data := #[] }, I 0] ∧ G W V)
  case first =>
    obtain ⟨hr, hok, hm⟩ := HRES.out
    clear HRES
    by_cases hk : kk.toList = [117, 110, 105, 113, 117, 101]
    · unfold saysR1 at hr
      rw [if_pos hk] at hr
      unfold saysO1 at hok
      rw [if_pos hk] at hok
      unfold saysM1 at hm
      rw [if_pos hk] at hm
      subst hr hok hm
      have e0 : (kk.toList == [117, 110, 105, 113, 117, 101]) = true := by rw [hk]; decide
      have e1 : (kk.toList == [110, 101, 101, 100, 115]) = false := by rw [hk]; decide
      have e2 : (kk.toList == [111, 110, 108, 121]) = false := by rw [hk]; decide
      clear hk
      have cN := HNw5.out.cell
      have c8 := H8w5.out.cell
      have z8 := H8w5.out.frozen
      go_wp2_with fail
      clear cN
      clear c8 z8
      refine (HY.out w5 HGw5.out).mono ?_
      rintro e w6 ⟨rfl, hg'⟩
      have HNw6 := hide (HNw5.out.G hg'); have HRw6 := hide (HRw5.out.G hg'); have HGw6 := hide (HGw5.out.trans hg')
      have H8w6 := hide (H8w5.out.G hg')
      clear hg'
      obtain ⟨w7, hw⟩ : ∃ w, w = ((w6.setCell ⟨r8, 3, none⟩ (.string ky)).setCell ⟨r8, 1, none⟩ (I 1)) := ⟨_, rfl⟩
      have H8w7 : Hid (Blk w7 r8 66 [I id, I 1, .string of, .string ky, I 0, .string { data := #[] }, .string { data := #[] }, I 0]) := by rw [hw]; exact ((H8w6.out.set 3 (.string ky)).set 1 (I 1))
      have HNw7 : Hid (Blk w7 B0 69 [I id, .string lb, .slice pa pn pc]) := by rw [hw]; exact ((HNw6.out.off (b := r8) (o := 3) (v := .string ky) HNE.out.1).off (b := r8) (o := 1) (v := I 1) HNE.out.1)
      have HRw7 : Hid (Blk w7 rb 66 [I 0, I 0, .string { data := #[] }, .string { data := #[] }, I 0, .string { data := #[] }, .string { data := #[] }, I 0]) := by rw [hw]; exact ((HRw6.out.off (b := r8) (o := 3) (v := .string ky) HNE.out.2.1).off (b := r8) (o := 1) (v := I 1) HNE.out.2.1)
      have HGw7 : Hid (G W w7) := by rw [hw]; exact ((HGw6.out.setCell HNE.out.2.2.1 (.string ky)).setCell HNE.out.2.2.1 (I 1))
      have HES : Hid (((w6.setCell ⟨r8, 3, none⟩ (.string ky)).setCell ⟨r8, 1, none⟩ (I 1)) = w7) := hw.symm
      clear hw
      have cN := HNw6.out.cell
      have c8 := H8w6.out.cell
      have z8 := H8w6.out.frozen
      have cNx : ∀ o, ((w6.setCell ⟨r8, 3, none⟩ (.string ky)).setCell ⟨r8, 1, none⟩ (I 1)).cell? ⟨B0, o, none⟩ = ([I id, .string lb, .slice pa pn pc] : List Value)[o]? := by rw [HES.out]; exact HNw7.out.cell
      have c8x : ∀ o, ((w6.setCell ⟨r8, 3, none⟩ (.string ky)).setCell ⟨r8, 1, none⟩ (I 1)).cell? ⟨r8, o, none⟩ = ([I id, I 1, .string of, .string ky, I 0, .string { data := #[] }, .string { data := #[] }, I 0] : List Value)[o]? := by rw [HES.out]; exact H8w7.out.cell
      have cNo := HNw7.out.cell
      have c8o := H8w7.out.cell
      go_wp2_with (first | (rw [HES.out]; clear HES) | (rw [HEX.out]; (try rw [HE8.out]); clear HEX) | (rw [HEV.out]; (try rw [HEB.out]); clear HEV) | fail)
      try rw [HEX.out]
      (try rw [HE8.out])
      try rw [HES.out]
      clear cN c8 z8 cNx c8x cNo c8o
      go_meet
      case rel => exact ⟨by first | rfl | (rw [hd]; rfl) | (rw [ht]; rfl) | (rw [ht, hd]; rfl), rfl, H8w7.out, HNw7.out, HRw7.out, HGw7.out⟩
    have hk0 := hk
    clear hk
    by_cases hk : kk.toList = [110, 101, 101, 100, 115]
    · unfold saysR1 at hr
      rw [if_neg hk0, if_pos hk] at hr
      unfold saysO1 at hok
      rw [if_neg hk0, if_pos hk] at hok
      unfold saysM1 at hm
      rw [if_neg hk0, if_pos hk] at hm
      subst hr hok hm
      have e0 : (kk.toList == [117, 110, 105, 113, 117, 101]) = false := by rw [hk]; decide
      have e1 : (kk.toList == [110, 101, 101, 100, 115]) = true := by rw [hk]; decide
      have e2 : (kk.toList == [111, 110, 108, 121]) = false := by rw [hk]; decide
      clear hk0 hk
      have cN := HNw5.out.cell
      have c8 := H8w5.out.cell
      have z8 := H8w5.out.frozen
      go_wp2_with fail
      clear cN
      clear c8 z8
      refine (HY.out w5 HGw5.out).mono ?_
      rintro e w6 ⟨rfl, hg'⟩
      have HNw6 := hide (HNw5.out.G hg'); have HRw6 := hide (HRw5.out.G hg'); have HGw6 := hide (HGw5.out.trans hg')
      have H8w6 := hide (H8w5.out.G hg')
      clear hg'
      obtain ⟨w7, hw⟩ : ∃ w, w = (((w6.setCell ⟨r8, 3, none⟩ (.string ky)).setCell ⟨r8, 1, none⟩ (I 1)).setCell ⟨r8, 1, none⟩ (I 2)) := ⟨_, rfl⟩
      have H8w7 : Hid (Blk w7 r8 66 [I id, I 2, .string of, .string ky, I 0, .string { data := #[] }, .string { data := #[] }, I 0]) := by rw [hw]; exact (((H8w6.out.set 3 (.string ky)).set 1 (I 1)).set 1 (I 2))
      have HNw7 : Hid (Blk w7 B0 69 [I id, .string lb, .slice pa pn pc]) := by rw [hw]; exact (((HNw6.out.off (b := r8) (o := 3) (v := .string ky) HNE.out.1).off (b := r8) (o := 1) (v := I 1) HNE.out.1).off (b := r8) (o := 1) (v := I 2) HNE.out.1)
      have HRw7 : Hid (Blk w7 rb 66 [I 0, I 0, .string { data := #[] }, .string { data := #[] }, I 0, .string { data := #[] }, .string { data := #[] }, I 0]) := by rw [hw]; exact (((HRw6.out.off (b := r8) (o := 3) (v := .string ky) HNE.out.2.1).off (b := r8) (o := 1) (v := I 1) HNE.out.2.1).off (b := r8) (o := 1) (v := I 2) HNE.out.2.1)
      have HGw7 : Hid (G W w7) := by rw [hw]; exact (((HGw6.out.setCell HNE.out.2.2.1 (.string ky)).setCell HNE.out.2.2.1 (I 1)).setCell HNE.out.2.2.1 (I 2))
      have HES : Hid ((((w6.setCell ⟨r8, 3, none⟩ (.string ky)).setCell ⟨r8, 1, none⟩ (I 1)).setCell ⟨r8, 1, none⟩ (I 2)) = w7) := hw.symm
      clear hw
      have cN := HNw6.out.cell
      have c8 := H8w6.out.cell
      have z8 := H8w6.out.frozen
      have cNx : ∀ o, (((w6.setCell ⟨r8, 3, none⟩ (.string ky)).setCell ⟨r8, 1, none⟩ (I 1)).setCell ⟨r8, 1, none⟩ (I 2)).cell? ⟨B0, o, none⟩ = ([I id, .string lb, .slice pa pn pc] : List Value)[o]? := by rw [HES.out]; exact HNw7.out.cell
      have c8x : ∀ o, (((w6.setCell ⟨r8, 3, none⟩ (.string ky)).setCell ⟨r8, 1, none⟩ (I 1)).setCell ⟨r8, 1, none⟩ (I 2)).cell? ⟨r8, o, none⟩ = ([I id, I 2, .string of, .string ky, I 0, .string { data := #[] }, .string { data := #[] }, I 0] : List Value)[o]? := by rw [HES.out]; exact H8w7.out.cell
      have cNo := HNw7.out.cell
      have c8o := H8w7.out.cell
      go_wp2_with (first | (rw [HES.out]; clear HES) | (rw [HEX.out]; (try rw [HE8.out]); clear HEX) | (rw [HEV.out]; (try rw [HEB.out]); clear HEV) | fail)
      try rw [HEX.out]
      (try rw [HE8.out])
      try rw [HES.out]
      clear cN c8 z8 cNx c8x cNo c8o
      go_meet
      case rel => exact ⟨by first | rfl | (rw [hd]; rfl) | (rw [ht]; rfl) | (rw [ht, hd]; rfl), rfl, H8w7.out, HNw7.out, HRw7.out, HGw7.out⟩
    have hk1 := hk
    clear hk
    by_cases hk : kk.toList = [111, 110, 108, 121]
    · unfold saysR1 at hr
      rw [if_neg hk0, if_neg hk1, if_pos hk] at hr
      unfold saysO1 at hok
      rw [if_neg hk0, if_neg hk1, if_pos hk] at hok
      unfold saysM1 at hm
      rw [if_neg hk0, if_neg hk1, if_pos hk] at hm
      subst hr hok hm
      have e0 : (kk.toList == [117, 110, 105, 113, 117, 101]) = false := by rw [hk]; decide
      have e1 : (kk.toList == [110, 101, 101, 100, 115]) = false := by rw [hk]; decide
      have e2 : (kk.toList == [111, 110, 108, 121]) = true := by rw [hk]; decide
      clear hk0 hk1 hk
      cases by' with
      | false =>
        have cN := HNw5.out.cell
        have c8 := H8w5.out.cell
        have z8 := H8w5.out.frozen
        go_wp2_with fail
        clear cN
        clear c8 z8
        refine (HY.out w5 HGw5.out).mono ?_
        rintro e w6 ⟨rfl, hg'⟩
        have HNw6 := hide (HNw5.out.G hg'); have HRw6 := hide (HRw5.out.G hg'); have HGw6 := hide (HGw5.out.trans hg')
        have H8w6 := hide (H8w5.out.G hg')
        clear hg'
        obtain ⟨w7, hw⟩ : ∃ w, w = ((w6.setCell ⟨r8, 3, none⟩ (.string ky)).setCell ⟨r8, 1, none⟩ (I 1)) := ⟨_, rfl⟩
        have H8w7 : Hid (Blk w7 r8 66 [I id, I 1, .string of, .string ky, I 0, .string { data := #[] }, .string { data := #[] }, I 0]) := by rw [hw]; exact ((H8w6.out.set 3 (.string ky)).set 1 (I 1))
        have HNw7 : Hid (Blk w7 B0 69 [I id, .string lb, .slice pa pn pc]) := by rw [hw]; exact ((HNw6.out.off (b := r8) (o := 3) (v := .string ky) HNE.out.1).off (b := r8) (o := 1) (v := I 1) HNE.out.1)
        have HRw7 : Hid (Blk w7 rb 66 [I 0, I 0, .string { data := #[] }, .string { data := #[] }, I 0, .string { data := #[] }, .string { data := #[] }, I 0]) := by rw [hw]; exact ((HRw6.out.off (b := r8) (o := 3) (v := .string ky) HNE.out.2.1).off (b := r8) (o := 1) (v := I 1) HNE.out.2.1)
        have HGw7 : Hid (G W w7) := by rw [hw]; exact ((HGw6.out.setCell HNE.out.2.2.1 (.string ky)).setCell HNE.out.2.2.1 (I 1))
        have HES : Hid (((w6.setCell ⟨r8, 3, none⟩ (.string ky)).setCell ⟨r8, 1, none⟩ (I 1)) = w7) := hw.symm
        clear hw
        have cN := HNw6.out.cell
        have c8 := H8w6.out.cell
        have z8 := H8w6.out.frozen
        have cNx : ∀ o, ((w6.setCell ⟨r8, 3, none⟩ (.string ky)).setCell ⟨r8, 1, none⟩ (I 1)).cell? ⟨B0, o, none⟩ = ([I id, .string lb, .slice pa pn pc] : List Value)[o]? := by rw [HES.out]; exact HNw7.out.cell
        have c8x : ∀ o, ((w6.setCell ⟨r8, 3, none⟩ (.string ky)).setCell ⟨r8, 1, none⟩ (I 1)).cell? ⟨r8, o, none⟩ = ([I id, I 1, .string of, .string ky, I 0, .string { data := #[] }, .string { data := #[] }, I 0] : List Value)[o]? := by rw [HES.out]; exact H8w7.out.cell
        have cNo := HNw7.out.cell
        have c8o := H8w7.out.cell
        go_wp2_with (first | (rw [HES.out]; clear HES) | (rw [HEX.out]; (try rw [HE8.out]); clear HEX) | (rw [HEV.out]; (try rw [HEB.out]); clear HEV) | fail)
        try rw [HEX.out]
        (try rw [HE8.out])
        try rw [HES.out]
        clear cN c8 z8 cNx c8x cNo c8o
        refine (HT.out w7 HGw7.out).mono ?_
        rintro e w8 ⟨rfl, hg'⟩
        have HNw8 := hide (HNw7.out.G hg'); have HRw8 := hide (HRw7.out.G hg'); have HGw8 := hide (HGw7.out.trans hg')
        have H8w8 := hide (H8w7.out.G hg')
        clear hg'
        obtain ⟨w9, hw⟩ : ∃ w, w = (w8.setCell ⟨r8, 1, none⟩ (I 3)) := ⟨_, rfl⟩
        have H8w9 : Hid (Blk w9 r8 66 [I id, I 3, .string of, .string ky, I 0, .string { data := #[] }, .string { data := #[] }, I 0]) := by rw [hw]; exact (H8w8.out.set 1 (I 3))
        have HNw9 : Hid (Blk w9 B0 69 [I id, .string lb, .slice pa pn pc]) := by rw [hw]; exact (HNw8.out.off (b := r8) (o := 1) (v := I 3) HNE.out.1)
        have HRw9 : Hid (Blk w9 rb 66 [I 0, I 0, .string { data := #[] }, .string { data := #[] }, I 0, .string { data := #[] }, .string { data := #[] }, I 0]) := by rw [hw]; exact (HRw8.out.off (b := r8) (o := 1) (v := I 3) HNE.out.2.1)
        have HGw9 : Hid (G W w9) := by rw [hw]; exact (HGw8.out.setCell HNE.out.2.2.1 (I 3))
        have HES : Hid ((w8.setCell ⟨r8, 1, none⟩ (I 3)) = w9) := hw.symm
        clear hw
        have cN := HNw8.out.cell
        have c8 := H8w8.out.cell
        have z8 := H8w8.out.frozen
        have cNx : ∀ o, (w8.setCell ⟨r8, 1, none⟩ (I 3)).cell? ⟨B0, o, none⟩ = ([I id, .string lb, .slice pa pn pc] : List Value)[o]? := by rw [HES.out]; exact HNw9.out.cell
        have c8x : ∀ o, (w8.setCell ⟨r8, 1, none⟩ (I 3)).cell? ⟨r8, o, none⟩ = ([I id, I 3, .string of, .string ky, I 0, .string { data := #[] }, .string { data := #[] }, I 0] : List Value)[o]? := by rw [HES.out]; exact H8w9.out.cell
        have cNo := HNw9.out.cell
        have c8o := H8w9.out.cell
        go_wp2_with (first | (rw [HES.out]; clear HES) | (rw [HEX.out]; (try rw [HE8.out]); clear HEX) | (rw [HEV.out]; (try rw [HEB.out]); clear HEV) | fail)
        try rw [HEX.out]
        (try rw [HE8.out])
        try rw [HES.out]
        clear cN c8 z8 cNx c8x cNo c8o
        refine (HKN.out w9).mono ?_
        rintro e w' ⟨rfl, h9⟩
        subst w'
        obtain ⟨w10, hw⟩ : ∃ w, w = (w9.setCell ⟨r8, 4, none⟩ (I (typeV ty))) := ⟨_, rfl⟩
        have H8w10 : Hid (Blk w10 r8 66 [I id, I 3, .string of, .string ky, I (typeV ty), .string { data := #[] }, .string { data := #[] }, I 0]) := by rw [hw]; exact (H8w9.out.set 4 (I (typeV ty)))
        have HNw10 : Hid (Blk w10 B0 69 [I id, .string lb, .slice pa pn pc]) := by rw [hw]; exact (HNw9.out.off (b := r8) (o := 4) (v := I (typeV ty)) HNE.out.1)
        have HRw10 : Hid (Blk w10 rb 66 [I 0, I 0, .string { data := #[] }, .string { data := #[] }, I 0, .string { data := #[] }, .string { data := #[] }, I 0]) := by rw [hw]; exact (HRw9.out.off (b := r8) (o := 4) (v := I (typeV ty)) HNE.out.2.1)
        have HGw10 : Hid (G W w10) := by rw [hw]; exact (HGw9.out.setCell HNE.out.2.2.1 (I (typeV ty)))
        have HES : Hid ((w9.setCell ⟨r8, 4, none⟩ (I (typeV ty))) = w10) := hw.symm
        clear hw
        have cN := HNw9.out.cell
        have c8 := H8w9.out.cell
        have z8 := H8w9.out.frozen
        have cNx : ∀ o, (w9.setCell ⟨r8, 4, none⟩ (I (typeV ty))).cell? ⟨B0, o, none⟩ = ([I id, .string lb, .slice pa pn pc] : List Value)[o]? := by rw [HES.out]; exact HNw10.out.cell
        have c8x : ∀ o, (w9.setCell ⟨r8, 4, none⟩ (I (typeV ty))).cell? ⟨r8, o, none⟩ = ([I id, I 3, .string of, .string ky, I (typeV ty), .string { data := #[] }, .string { data := #[] }, I 0] : List Value)[o]? := by rw [HES.out]; exact H8w10.out.cell
        have cNo := HNw10.out.cell
        have c8o := H8w10.out.cell
        go_wp2_with (first | (rw [HES.out]; clear HES) | (rw [HEX.out]; (try rw [HE8.out]); clear HEX) | (rw [HEV.out]; (try rw [HEB.out]); clear HEV) | fail)
        try rw [HEX.out]
        (try rw [HE8.out])
        try rw [HES.out]
        clear cN c8 z8 cNx c8x cNo c8o
        go_meet
        case rel => exact ⟨by first | rfl | (rw [hd]; rfl) | (rw [ht]; rfl) | (rw [ht, hd]; rfl), rfl, H8w10.out, HNw10.out, HRw10.out, HGw10.out⟩
      | true =>
        cases bt with
        | false =>
          have cN := HNw5.out.cell
          have c8 := H8w5.out.cell
          have z8 := H8w5.out.frozen
          go_wp2_with fail
          clear cN
          clear c8 z8
          refine (HY.out w5 HGw5.out).mono ?_
          rintro e w6 ⟨rfl, hg'⟩
          have HNw6 := hide (HNw5.out.G hg'); have HRw6 := hide (HRw5.out.G hg'); have HGw6 := hide (HGw5.out.trans hg')
          have H8w6 := hide (H8w5.out.G hg')
          clear hg'
          obtain ⟨w7, hw⟩ : ∃ w, w = ((w6.setCell ⟨r8, 3, none⟩ (.string ky)).setCell ⟨r8, 1, none⟩ (I 1)) := ⟨_, rfl⟩
          have H8w7 : Hid (Blk w7 r8 66 [I id, I 1, .string of, .string ky, I 0, .string { data := #[] }, .string { data := #[] }, I 0]) := by rw [hw]; exact ((H8w6.out.set 3 (.string ky)).set 1 (I 1))
          have HNw7 : Hid (Blk w7 B0 69 [I id, .string lb, .slice pa pn pc]) := by rw [hw]; exact ((HNw6.out.off (b := r8) (o := 3) (v := .string ky) HNE.out.1).off (b := r8) (o := 1) (v := I 1) HNE.out.1)
          have HRw7 : Hid (Blk w7 rb 66 [I 0, I 0, .string { data := #[] }, .string { data := #[] }, I 0, .string { data := #[] }, .string { data := #[] }, I 0]) := by rw [hw]; exact ((HRw6.out.off (b := r8) (o := 3) (v := .string ky) HNE.out.2.1).off (b := r8) (o := 1) (v := I 1) HNE.out.2.1)
          have HGw7 : Hid (G W w7) := by rw [hw]; exact ((HGw6.out.setCell HNE.out.2.2.1 (.string ky)).setCell HNE.out.2.2.1 (I 1))
          have HES : Hid (((w6.setCell ⟨r8, 3, none⟩ (.string ky)).setCell ⟨r8, 1, none⟩ (I 1)) = w7) := hw.symm
          clear hw
          have cN := HNw6.out.cell
          have c8 := H8w6.out.cell
          have z8 := H8w6.out.frozen
          have cNx : ∀ o, ((w6.setCell ⟨r8, 3, none⟩ (.string ky)).setCell ⟨r8, 1, none⟩ (I 1)).cell? ⟨B0, o, none⟩ = ([I id, .string lb, .slice pa pn pc] : List Value)[o]? := by rw [HES.out]; exact HNw7.out.cell
          have c8x : ∀ o, ((w6.setCell ⟨r8, 3, none⟩ (.string ky)).setCell ⟨r8, 1, none⟩ (I 1)).cell? ⟨r8, o, none⟩ = ([I id, I 1, .string of, .string ky, I 0, .string { data := #[] }, .string { data := #[] }, I 0] : List Value)[o]? := by rw [HES.out]; exact H8w7.out.cell
          have cNo := HNw7.out.cell
          have c8o := H8w7.out.cell
          go_wp2_with (first | (rw [HES.out]; clear HES) | (rw [HEX.out]; (try rw [HE8.out]); clear HEX) | (rw [HEV.out]; (try rw [HEB.out]); clear HEV) | fail)
          try rw [HEX.out]
          (try rw [HE8.out])
          try rw [HES.out]
          clear cN c8 z8 cNx c8x cNo c8o
          refine (HT.out w7 HGw7.out).mono ?_
          rintro e w8 ⟨rfl, hg'⟩
          have HNw8 := hide (HNw7.out.G hg'); have HRw8 := hide (HRw7.out.G hg'); have HGw8 := hide (HGw7.out.trans hg')
          have H8w8 := hide (H8w7.out.G hg')
          clear hg'
          obtain ⟨w9, hw⟩ : ∃ w, w = (w8.setCell ⟨r8, 1, none⟩ (I 3)) := ⟨_, rfl⟩
          have H8w9 : Hid (Blk w9 r8 66 [I id, I 3, .string of, .string ky, I 0, .string { data := #[] }, .string { data := #[] }, I 0]) := by rw [hw]; exact (H8w8.out.set 1 (I 3))
          have HNw9 : Hid (Blk w9 B0 69 [I id, .string lb, .slice pa pn pc]) := by rw [hw]; exact (HNw8.out.off (b := r8) (o := 1) (v := I 3) HNE.out.1)
          have HRw9 : Hid (Blk w9 rb 66 [I 0, I 0, .string { data := #[] }, .string { data := #[] }, I 0, .string { data := #[] }, .string { data := #[] }, I 0]) := by rw [hw]; exact (HRw8.out.off (b := r8) (o := 1) (v := I 3) HNE.out.2.1)
          have HGw9 : Hid (G W w9) := by rw [hw]; exact (HGw8.out.setCell HNE.out.2.2.1 (I 3))
          have HES : Hid ((w8.setCell ⟨r8, 1, none⟩ (I 3)) = w9) := hw.symm
          clear hw
          have cN := HNw8.out.cell
          have c8 := H8w8.out.cell
          have z8 := H8w8.out.frozen
          have cNx : ∀ o, (w8.setCell ⟨r8, 1, none⟩ (I 3)).cell? ⟨B0, o, none⟩ = ([I id, .string lb, .slice pa pn pc] : List Value)[o]? := by rw [HES.out]; exact HNw9.out.cell
          have c8x : ∀ o, (w8.setCell ⟨r8, 1, none⟩ (I 3)).cell? ⟨r8, o, none⟩ = ([I id, I 3, .string of, .string ky, I 0, .string { data := #[] }, .string { data := #[] }, I 0] : List Value)[o]? := by rw [HES.out]; exact H8w9.out.cell
          have cNo := HNw9.out.cell
          have c8o := H8w9.out.cell
          go_wp2_with (first | (rw [HES.out]; clear HES) | (rw [HEX.out]; (try rw [HE8.out]); clear HEX) | (rw [HEV.out]; (try rw [HEB.out]); clear HEV) | fail)
          try rw [HEX.out]
          (try rw [HE8.out])
          try rw [HES.out]
          clear cN c8 z8 cNx c8x cNo c8o
          refine (HKN.out w9).mono ?_
          rintro e w' ⟨rfl, h9⟩
          subst w'
          obtain ⟨w10, hw⟩ : ∃ w, w = (w9.setCell ⟨r8, 4, none⟩ (I (typeV ty))) := ⟨_, rfl⟩
          have H8w10 : Hid (Blk w10 r8 66 [I id, I 3, .string of, .string ky, I (typeV ty), .string { data := #[] }, .string { data := #[] }, I 0]) := by rw [hw]; exact (H8w9.out.set 4 (I (typeV ty)))
          have HNw10 : Hid (Blk w10 B0 69 [I id, .string lb, .slice pa pn pc]) := by rw [hw]; exact (HNw9.out.off (b := r8) (o := 4) (v := I (typeV ty)) HNE.out.1)
          have HRw10 : Hid (Blk w10 rb 66 [I 0, I 0, .string { data := #[] }, .string { data := #[] }, I 0, .string { data := #[] }, .string { data := #[] }, I 0]) := by rw [hw]; exact (HRw9.out.off (b := r8) (o := 4) (v := I (typeV ty)) HNE.out.2.1)
          have HGw10 : Hid (G W w10) := by rw [hw]; exact (HGw9.out.setCell HNE.out.2.2.1 (I (typeV ty)))
          have HES : Hid ((w9.setCell ⟨r8, 4, none⟩ (I (typeV ty))) = w10) := hw.symm
          clear hw
          have cN := HNw9.out.cell
          have c8 := H8w9.out.cell
          have z8 := H8w9.out.frozen
          have cNx : ∀ o, (w9.setCell ⟨r8, 4, none⟩ (I (typeV ty))).cell? ⟨B0, o, none⟩ = ([I id, .string lb, .slice pa pn pc] : List Value)[o]? := by rw [HES.out]; exact HNw10.out.cell
          have c8x : ∀ o, (w9.setCell ⟨r8, 4, none⟩ (I (typeV ty))).cell? ⟨r8, o, none⟩ = ([I id, I 3, .string of, .string ky, I (typeV ty), .string { data := #[] }, .string { data := #[] }, I 0] : List Value)[o]? := by rw [HES.out]; exact H8w10.out.cell
          have cNo := HNw10.out.cell
          have c8o := H8w10.out.cell
          go_wp2_with (first | (rw [HES.out]; clear HES) | (rw [HEX.out]; (try rw [HE8.out]); clear HEX) | (rw [HEV.out]; (try rw [HEB.out]); clear HEV) | fail)
          try rw [HEX.out]
          (try rw [HE8.out])
          try rw [HES.out]
          clear cN c8 z8 cNx c8x cNo c8o
          go_meet
          case rel => exact ⟨by first | rfl | (rw [hd]; rfl) | (rw [ht]; rfl) | (rw [ht, hd]; rfl), rfl, H8w10.out, HNw10.out, HRw10.out, HGw10.out⟩
        | true =>
          cases hd : decide (typeV ty > 0) with
          | false =>
            have cN := HNw5.out.cell
            have c8 := H8w5.out.cell
            have z8 := H8w5.out.frozen
            go_wp2_with fail
            clear cN
            clear c8 z8
            refine (HY.out w5 HGw5.out).mono ?_
            rintro e w6 ⟨rfl, hg'⟩
            have HNw6 := hide (HNw5.out.G hg'); have HRw6 := hide (HRw5.out.G hg'); have HGw6 := hide (HGw5.out.trans hg')
            have H8w6 := hide (H8w5.out.G hg')
            clear hg'
            obtain ⟨w7, hw⟩ : ∃ w, w = ((w6.setCell ⟨r8, 3, none⟩ (.string ky)).setCell ⟨r8, 1, none⟩ (I 1)) := ⟨_, rfl⟩
            have H8w7 : Hid (Blk w7 r8 66 [I id, I 1, .string of, .string ky, I 0, .string { data := #[] }, .string { data := #[] }, I 0]) := by rw [hw]; exact ((H8w6.out.set 3 (.string ky)).set 1 (I 1))
            have HNw7 : Hid (Blk w7 B0 69 [I id, .string lb, .slice pa pn pc]) := by rw [hw]; exact ((HNw6.out.off (b := r8) (o := 3) (v := .string ky) HNE.out.1).off (b := r8) (o := 1) (v := I 1) HNE.out.1)
            have HRw7 : Hid (Blk w7 rb 66 [I 0, I 0, .string { data := #[] }, .string { data := #[] }, I 0, .string { data := #[] }, .string { data := #[] }, I 0]) := by rw [hw]; exact ((HRw6.out.off (b := r8) (o := 3) (v := .string ky) HNE.out.2.1).off (b := r8) (o := 1) (v := I 1) HNE.out.2.1)
            have HGw7 : Hid (G W w7) := by rw [hw]; exact ((HGw6.out.setCell HNE.out.2.2.1 (.string ky)).setCell HNE.out.2.2.1 (I 1))
            have HES : Hid (((w6.setCell ⟨r8, 3, none⟩ (.string ky)).setCell ⟨r8, 1, none⟩ (I 1)) = w7) := hw.symm
            clear hw
            have cN := HNw6.out.cell
            have c8 := H8w6.out.cell
            have z8 := H8w6.out.frozen
            have cNx : ∀ o, ((w6.setCell ⟨r8, 3, none⟩ (.string ky)).setCell ⟨r8, 1, none⟩ (I 1)).cell? ⟨B0, o, none⟩ = ([I id, .string lb, .slice pa pn pc] : List Value)[o]? := by rw [HES.out]; exact HNw7.out.cell
            have c8x : ∀ o, ((w6.setCell ⟨r8, 3, none⟩ (.string ky)).setCell ⟨r8, 1, none⟩ (I 1)).cell? ⟨r8, o, none⟩ = ([I id, I 1, .string of, .string ky, I 0, .string { data := #[] }, .string { data := #[] }, I 0] : List Value)[o]? := by rw [HES.out]; exact H8w7.out.cell
            have cNo := HNw7.out.cell
            have c8o := H8w7.out.cell
            go_wp2_with (first | (rw [HES.out]; clear HES) | (rw [HEX.out]; (try rw [HE8.out]); clear HEX) | (rw [HEV.out]; (try rw [HEB.out]); clear HEV) | fail)
            try rw [HEX.out]
            (try rw [HE8.out])
            try rw [HES.out]
            clear cN c8 z8 cNx c8x cNo c8o
            refine (HT.out w7 HGw7.out).mono ?_
            rintro e w8 ⟨rfl, hg'⟩
            have HNw8 := hide (HNw7.out.G hg'); have HRw8 := hide (HRw7.out.G hg'); have HGw8 := hide (HGw7.out.trans hg')
            have H8w8 := hide (H8w7.out.G hg')
            clear hg'
            obtain ⟨w9, hw⟩ : ∃ w, w = (w8.setCell ⟨r8, 1, none⟩ (I 3)) := ⟨_, rfl⟩
            have H8w9 : Hid (Blk w9 r8 66 [I id, I 3, .string of, .string ky, I 0, .string { data := #[] }, .string { data := #[] }, I 0]) := by rw [hw]; exact (H8w8.out.set 1 (I 3))
            have HNw9 : Hid (Blk w9 B0 69 [I id, .string lb, .slice pa pn pc]) := by rw [hw]; exact (HNw8.out.off (b := r8) (o := 1) (v := I 3) HNE.out.1)
            have HRw9 : Hid (Blk w9 rb 66 [I 0, I 0, .string { data := #[] }, .string { data := #[] }, I 0, .string { data := #[] }, .string { data := #[] }, I 0]) := by rw [hw]; exact (HRw8.out.off (b := r8) (o := 1) (v := I 3) HNE.out.2.1)
            have HGw9 : Hid (G W w9) := by rw [hw]; exact (HGw8.out.setCell HNE.out.2.2.1 (I 3))
            have HES : Hid ((w8.setCell ⟨r8, 1, none⟩ (I 3)) = w9) := hw.symm
            clear hw
            have cN := HNw8.out.cell
            have c8 := H8w8.out.cell
            have z8 := H8w8.out.frozen
            have cNx : ∀ o, (w8.setCell ⟨r8, 1, none⟩ (I 3)).cell? ⟨B0, o, none⟩ = ([I id, .string lb, .slice pa pn pc] : List Value)[o]? := by rw [HES.out]; exact HNw9.out.cell
            have c8x : ∀ o, (w8.setCell ⟨r8, 1, none⟩ (I 3)).cell? ⟨r8, o, none⟩ = ([I id, I 3, .string of, .string ky, I 0, .string { data := #[] }, .string { data := #[] }, I 0] : List Value)[o]? := by rw [HES.out]; exact H8w9.out.cell
            have cNo := HNw9.out.cell
            have c8o := H8w9.out.cell
            go_wp2_with (first | (rw [HES.out]; clear HES) | (rw [HEX.out]; (try rw [HE8.out]); clear HEX) | (rw [HEV.out]; (try rw [HEB.out]); clear HEV) | fail)
            try rw [HEX.out]
            (try rw [HE8.out])
            try rw [HES.out]
            clear cN c8 z8 cNx c8x cNo c8o
            refine (HKN.out w9).mono ?_
            rintro e w' ⟨rfl, h9⟩
            subst w'
            obtain ⟨w10, hw⟩ : ∃ w, w = (w9.setCell ⟨r8, 4, none⟩ (I (typeV ty))) := ⟨_, rfl⟩
            have H8w10 : Hid (Blk w10 r8 66 [I id, I 3, .string of, .string ky, I (typeV ty), .string { data := #[] }, .string { data := #[] }, I 0]) := by rw [hw]; exact (H8w9.out.set 4 (I (typeV ty)))
            have HNw10 : Hid (Blk w10 B0 69 [I id, .string lb, .slice pa pn pc]) := by rw [hw]; exact (HNw9.out.off (b := r8) (o := 4) (v := I (typeV ty)) HNE.out.1)
            have HRw10 : Hid (Blk w10 rb 66 [I 0, I 0, .string { data := #[] }, .string { data := #[] }, I 0, .string { data := #[] }, .string { data := #[] }, I 0]) := by rw [hw]; exact (HRw9.out.off (b := r8) (o := 4) (v := I (typeV ty)) HNE.out.2.1)
            have HGw10 : Hid (G W w10) := by rw [hw]; exact (HGw9.out.setCell HNE.out.2.2.1 (I (typeV ty)))
            have HES : Hid ((w9.setCell ⟨r8, 4, none⟩ (I (typeV ty))) = w10) := hw.symm
            clear hw
            have cN := HNw9.out.cell
            have c8 := H8w9.out.cell
            have z8 := H8w9.out.frozen
            have cNx : ∀ o, (w9.setCell ⟨r8, 4, none⟩ (I (typeV ty))).cell? ⟨B0, o, none⟩ = ([I id, .string lb, .slice pa pn pc] : List Value)[o]? := by rw [HES.out]; exact HNw10.out.cell
            have c8x : ∀ o, (w9.setCell ⟨r8, 4, none⟩ (I (typeV ty))).cell? ⟨r8, o, none⟩ = ([I id, I 3, .string of, .string ky, I (typeV ty), .string { data := #[] }, .string { data := #[] }, I 0] : List Value)[o]? := by rw [HES.out]; exact H8w10.out.cell
            have cNo := HNw10.out.cell
            have c8o := H8w10.out.cell
            go_wp2_with (first | (rw [HES.out]; clear HES) | (rw [HEX.out]; (try rw [HE8.out]); clear HEX) | (rw [HEV.out]; (try rw [HEB.out]); clear HEV) | fail)
            try rw [HEX.out]
            (try rw [HE8.out])
            try rw [HES.out]
            clear cN c8 z8 cNx c8x cNo c8o
            go_meet
            case rel => exact ⟨by first | rfl | (rw [hd]; rfl) | (rw [ht]; rfl) | (rw [ht, hd]; rfl), rfl, H8w10.out, HNw10.out, HRw10.out, HGw10.out⟩
          | true =>
            have hd2 := of_decide_eq_true hd
            have cN := HNw5.out.cell
            have c8 := H8w5.out.cell
            have z8 := H8w5.out.frozen
            go_wp2_with fail
            clear cN
            clear c8 z8
            refine (HY.out w5 HGw5.out).mono ?_
            rintro e w6 ⟨rfl, hg'⟩
            have HNw6 := hide (HNw5.out.G hg'); have HRw6 := hide (HRw5.out.G hg'); have HGw6 := hide (HGw5.out.trans hg')
            have H8w6 := hide (H8w5.out.G hg')
            clear hg'
            obtain ⟨w7, hw⟩ : ∃ w, w = ((w6.setCell ⟨r8, 3, none⟩ (.string ky)).setCell ⟨r8, 1, none⟩ (I 1)) := ⟨_, rfl⟩
            have H8w7 : Hid (Blk w7 r8 66 [I id, I 1, .string of, .string ky, I 0, .string { data := #[] }, .string { data := #[] }, I 0]) := by rw [hw]; exact ((H8w6.out.set 3 (.string ky)).set 1 (I 1))
            have HNw7 : Hid (Blk w7 B0 69 [I id, .string lb, .slice pa pn pc]) := by rw [hw]; exact ((HNw6.out.off (b := r8) (o := 3) (v := .string ky) HNE.out.1).off (b := r8) (o := 1) (v := I 1) HNE.out.1)
            have HRw7 : Hid (Blk w7 rb 66 [I 0, I 0, .string { data := #[] }, .string { data := #[] }, I 0, .string { data := #[] }, .string { data := #[] }, I 0]) := by rw [hw]; exact ((HRw6.out.off (b := r8) (o := 3) (v := .string ky) HNE.out.2.1).off (b := r8) (o := 1) (v := I 1) HNE.out.2.1)
            have HGw7 : Hid (G W w7) := by rw [hw]; exact ((HGw6.out.setCell HNE.out.2.2.1 (.string ky)).setCell HNE.out.2.2.1 (I 1))
            have HES : Hid (((w6.setCell ⟨r8, 3, none⟩ (.string ky)).setCell ⟨r8, 1, none⟩ (I 1)) = w7) := hw.symm
            clear hw
            have cN := HNw6.out.cell
            have c8 := H8w6.out.cell
            have z8 := H8w6.out.frozen
            have cNx : ∀ o, ((w6.setCell ⟨r8, 3, none⟩ (.string ky)).setCell ⟨r8, 1, none⟩ (I 1)).cell? ⟨B0, o, none⟩ = ([I id, .string lb, .slice pa pn pc] : List Value)[o]? := by rw [HES.out]; exact HNw7.out.cell
            have c8x : ∀ o, ((w6.setCell ⟨r8, 3, none⟩ (.string ky)).setCell ⟨r8, 1, none⟩ (I 1)).cell? ⟨r8, o, none⟩ = ([I id, I 1, .string of, .string ky, I 0, .string { data := #[] }, .string { data := #[] }, I 0] : List Value)[o]? := by rw [HES.out]; exact H8w7.out.cell
            have cNo := HNw7.out.cell
            have c8o := H8w7.out.cell
            go_wp2_with (first | (rw [HES.out]; clear HES) | (rw [HEX.out]; (try rw [HE8.out]); clear HEX) | (rw [HEV.out]; (try rw [HEB.out]); clear HEV) | fail)
            try rw [HEX.out]
            (try rw [HE8.out])
            try rw [HES.out]
            clear cN c8 z8 cNx c8x cNo c8o
            refine (HT.out w7 HGw7.out).mono ?_
            rintro e w8 ⟨rfl, hg'⟩
            have HNw8 := hide (HNw7.out.G hg'); have HRw8 := hide (HRw7.out.G hg'); have HGw8 := hide (HGw7.out.trans hg')
            have H8w8 := hide (H8w7.out.G hg')
            clear hg'
            obtain ⟨w9, hw⟩ : ∃ w, w = (w8.setCell ⟨r8, 1, none⟩ (I 3)) := ⟨_, rfl⟩
            have H8w9 : Hid (Blk w9 r8 66 [I id, I 3, .string of, .string ky, I 0, .string { data := #[] }, .string { data := #[] }, I 0]) := by rw [hw]; exact (H8w8.out.set 1 (I 3))
            have HNw9 : Hid (Blk w9 B0 69 [I id, .string lb, .slice pa pn pc]) := by rw [hw]; exact (HNw8.out.off (b := r8) (o := 1) (v := I 3) HNE.out.1)
            have HRw9 : Hid (Blk w9 rb 66 [I 0, I 0, .string { data := #[] }, .string { data := #[] }, I 0, .string { data := #[] }, .string { data := #[] }, I 0]) := by rw [hw]; exact (HRw8.out.off (b := r8) (o := 1) (v := I 3) HNE.out.2.1)
            have HGw9 : Hid (G W w9) := by rw [hw]; exact (HGw8.out.setCell HNE.out.2.2.1 (I 3))
            have HES : Hid ((w8.setCell ⟨r8, 1, none⟩ (I 3)) = w9) := hw.symm
            clear hw
            have cN := HNw8.out.cell
            have c8 := H8w8.out.cell
            have z8 := H8w8.out.frozen
            have cNx : ∀ o, (w8.setCell ⟨r8, 1, none⟩ (I 3)).cell? ⟨B0, o, none⟩ = ([I id, .string lb, .slice pa pn pc] : List Value)[o]? := by rw [HES.out]; exact HNw9.out.cell
            have c8x : ∀ o, (w8.setCell ⟨r8, 1, none⟩ (I 3)).cell? ⟨r8, o, none⟩ = ([I id, I 3, .string of, .string ky, I 0, .string { data := #[] }, .string { data := #[] }, I 0] : List Value)[o]? := by rw [HES.out]; exact H8w9.out.cell
            have cNo := HNw9.out.cell
            have c8o := H8w9.out.cell
            go_wp2_with (first | (rw [HES.out]; clear HES) | (rw [HEX.out]; (try rw [HE8.out]); clear HEX) | (rw [HEV.out]; (try rw [HEB.out]); clear HEV) | fail)
            try rw [HEX.out]
            (try rw [HE8.out])
            try rw [HES.out]
            clear cN c8 z8 cNx c8x cNo c8o
            refine (HKN.out w9).mono ?_
            rintro e w' ⟨rfl, h9⟩
            subst w'
            obtain ⟨w10, hw⟩ : ∃ w, w = (w9.setCell ⟨r8, 4, none⟩ (I (typeV ty))) := ⟨_, rfl⟩
            have H8w10 : Hid (Blk w10 r8 66 [I id, I 3, .string of, .string ky, I (typeV ty), .string { data := #[] }, .string { data := #[] }, I 0]) := by rw [hw]; exact (H8w9.out.set 4 (I (typeV ty)))
            have HNw10 : Hid (Blk w10 B0 69 [I id, .string lb, .slice pa pn pc]) := by rw [hw]; exact (HNw9.out.off (b := r8) (o := 4) (v := I (typeV ty)) HNE.out.1)
            have HRw10 : Hid (Blk w10 rb 66 [I 0, I 0, .string { data := #[] }, .string { data := #[] }, I 0, .string { data := #[] }, .string { data := #[] }, I 0]) := by rw [hw]; exact (HRw9.out.off (b := r8) (o := 4) (v := I (typeV ty)) HNE.out.2.1)
            have HGw10 : Hid (G W w10) := by rw [hw]; exact (HGw9.out.setCell HNE.out.2.2.1 (I (typeV ty)))
            have HES : Hid ((w9.setCell ⟨r8, 4, none⟩ (I (typeV ty))) = w10) := hw.symm
            clear hw
            have cN := HNw9.out.cell
            have c8 := H8w9.out.cell
            have z8 := H8w9.out.frozen
            have cNx : ∀ o, (w9.setCell ⟨r8, 4, none⟩ (I (typeV ty))).cell? ⟨B0, o, none⟩ = ([I id, .string lb, .slice pa pn pc] : List Value)[o]? := by rw [HES.out]; exact HNw10.out.cell
            have c8x : ∀ o, (w9.setCell ⟨r8, 4, none⟩ (I (typeV ty))).cell? ⟨r8, o, none⟩ = ([I id, I 3, .string of, .string ky, I (typeV ty), .string { data := #[] }, .string { data := #[] }, I 0] : List Value)[o]? := by rw [HES.out]; exact H8w10.out.cell
            have cNo := HNw10.out.cell
            have c8o := H8w10.out.cell
            go_wp2_with (first | (rw [HES.out]; clear HES) | (rw [HEX.out]; (try rw [HE8.out]); clear HEX) | (rw [HEV.out]; (try rw [HEB.out]); clear HEV) | fail)
            try rw [HEX.out]
            (try rw [HE8.out])
            try rw [HES.out]
            clear cN c8 z8 cNx c8x cNo c8o
            go_meet
            case rel => exact ⟨by first | rfl | (rw [hd]; rfl) | (rw [ht]; rfl) | (rw [ht, hd]; rfl), rfl, H8w10.out, HNw10.out, HRw10.out, HGw10.out⟩
    have hk2 := hk
    clear hk
    by_cases hk : kk.toList = [108, 105, 110, 107]
    · unfold saysR1 at hr
      rw [if_neg hk0, if_neg hk1, if_neg hk2, if_pos hk] at hr
      unfold saysO1 at hok
      rw [if_neg hk0, if_neg hk1, if_neg hk2, if_pos hk] at hok
      unfold saysM1 at hm
      rw [if_neg hk0, if_neg hk1, if_neg hk2, if_pos hk] at hm
      subst hr hok hm
      have e0 : (kk.toList == [117, 110, 105, 113, 117, 101]) = false := by rw [hk]; decide
      have e1 : (kk.toList == [110, 101, 101, 100, 115]) = false := by rw [hk]; decide
      have e2 : (kk.toList == [111, 110, 108, 121]) = false := by rw [hk]; decide
      have e3 : (kk.toList == [108, 105, 110, 107]) = true := by rw [hk]; decide
      clear hk0 hk1 hk2 hk
      cases bf with
      | false =>
        have cN := HNw5.out.cell
        have c8 := H8w5.out.cell
        have z8 := H8w5.out.frozen
        go_wp2_with fail
        clear cN
        clear c8 z8
        refine (HLF.out w5 HGw5.out).mono ?_
        rintro e w6 ⟨rfl, hg'⟩
        have HNw6 := hide (HNw5.out.G hg'); have HRw6 := hide (HRw5.out.G hg'); have HGw6 := hide (HGw5.out.trans hg')
        have H8w6 := hide (H8w5.out.G hg')
        clear hg'
        have cN := HNw6.out.cell
        have c8 := H8w6.out.cell
        have z8 := H8w6.out.frozen
        go_wp2_with fail
        clear cN
        clear c8 z8
        refine (HLT.out w6 HGw6.out).mono ?_
        rintro e w7 ⟨rfl, hg'⟩
        have HNw7 := hide (HNw6.out.G hg'); have HRw7 := hide (HRw6.out.G hg'); have HGw7 := hide (HGw6.out.trans hg')
        have H8w7 := hide (H8w6.out.G hg')
        clear hg'
        obtain ⟨w8, hw⟩ : ∃ w, w = (((w7.setCell ⟨r8, 1, none⟩ (I 4)).setCell ⟨r8, 5, none⟩ (.string fr)).setCell ⟨r8, 6, none⟩ (.string dst)) := ⟨_, rfl⟩
        have H8w8 : Hid (Blk w8 r8 66 [I id, I 4, .string of, .string { data := #[] }, I 0, .string fr, .string dst, I 0]) := by rw [hw]; exact (((H8w7.out.set 1 (I 4)).set 5 (.string fr)).set 6 (.string dst))
        have HNw8 : Hid (Blk w8 B0 69 [I id, .string lb, .slice pa pn pc]) := by rw [hw]; exact (((HNw7.out.off (b := r8) (o := 1) (v := I 4) HNE.out.1).off (b := r8) (o := 5) (v := .string fr) HNE.out.1).off (b := r8) (o := 6) (v := .string dst) HNE.out.1)
        have HRw8 : Hid (Blk w8 rb 66 [I 0, I 0, .string { data := #[] }, .string { data := #[] }, I 0, .string { data := #[] }, .string { data := #[] }, I 0]) := by rw [hw]; exact (((HRw7.out.off (b := r8) (o := 1) (v := I 4) HNE.out.2.1).off (b := r8) (o := 5) (v := .string fr) HNE.out.2.1).off (b := r8) (o := 6) (v := .string dst) HNE.out.2.1)
        have HGw8 : Hid (G W w8) := by rw [hw]; exact (((HGw7.out.setCell HNE.out.2.2.1 (I 4)).setCell HNE.out.2.2.1 (.string fr)).setCell HNE.out.2.2.1 (.string dst))
        have HES : Hid ((((w7.setCell ⟨r8, 1, none⟩ (I 4)).setCell ⟨r8, 5, none⟩ (.string fr)).setCell ⟨r8, 6, none⟩ (.string dst)) = w8) := hw.symm
        clear hw
        have cN := HNw7.out.cell
        have c8 := H8w7.out.cell
        have z8 := H8w7.out.frozen
        have cNx : ∀ o, (((w7.setCell ⟨r8, 1, none⟩ (I 4)).setCell ⟨r8, 5, none⟩ (.string fr)).setCell ⟨r8, 6, none⟩ (.string dst)).cell? ⟨B0, o, none⟩ = ([I id, .string lb, .slice pa pn pc] : List Value)[o]? := by rw [HES.out]; exact HNw8.out.cell
        have c8x : ∀ o, (((w7.setCell ⟨r8, 1, none⟩ (I 4)).setCell ⟨r8, 5, none⟩ (.string fr)).setCell ⟨r8, 6, none⟩ (.string dst)).cell? ⟨r8, o, none⟩ = ([I id, I 4, .string of, .string { data := #[] }, I 0, .string fr, .string dst, I 0] : List Value)[o]? := by rw [HES.out]; exact H8w8.out.cell
        have cNo := HNw8.out.cell
        have c8o := H8w8.out.cell
        go_wp2_with (first | (rw [HES.out]; clear HES) | (rw [HEX.out]; (try rw [HE8.out]); clear HEX) | (rw [HEV.out]; (try rw [HEB.out]); clear HEV) | fail)
        try rw [HEX.out]
        (try rw [HE8.out])
        try rw [HES.out]
        clear cN c8 z8 cNx c8x cNo c8o
        go_meet
        case rel => exact ⟨by first | rfl | (rw [hd]; rfl) | (rw [ht]; rfl) | (rw [ht, hd]; rfl), rfl, H8w8.out, HNw8.out, HRw8.out, HGw8.out⟩
      | true =>
        cases bd with
        | false =>
          have cN := HNw5.out.cell
          have c8 := H8w5.out.cell
          have z8 := H8w5.out.frozen
          go_wp2_with fail
          clear cN
          clear c8 z8
          refine (HLF.out w5 HGw5.out).mono ?_
          rintro e w6 ⟨rfl, hg'⟩
          have HNw6 := hide (HNw5.out.G hg'); have HRw6 := hide (HRw5.out.G hg'); have HGw6 := hide (HGw5.out.trans hg')
          have H8w6 := hide (H8w5.out.G hg')
          clear hg'
          have cN := HNw6.out.cell
          have c8 := H8w6.out.cell
          have z8 := H8w6.out.frozen
          go_wp2_with fail
          clear cN
          clear c8 z8
          refine (HLT.out w6 HGw6.out).mono ?_
          rintro e w7 ⟨rfl, hg'⟩
          have HNw7 := hide (HNw6.out.G hg'); have HRw7 := hide (HRw6.out.G hg'); have HGw7 := hide (HGw6.out.trans hg')
          have H8w7 := hide (H8w6.out.G hg')
          clear hg'
          obtain ⟨w8, hw⟩ : ∃ w, w = (((w7.setCell ⟨r8, 1, none⟩ (I 4)).setCell ⟨r8, 5, none⟩ (.string fr)).setCell ⟨r8, 6, none⟩ (.string dst)) := ⟨_, rfl⟩
          have H8w8 : Hid (Blk w8 r8 66 [I id, I 4, .string of, .string { data := #[] }, I 0, .string fr, .string dst, I 0]) := by rw [hw]; exact (((H8w7.out.set 1 (I 4)).set 5 (.string fr)).set 6 (.string dst))
          have HNw8 : Hid (Blk w8 B0 69 [I id, .string lb, .slice pa pn pc]) := by rw [hw]; exact (((HNw7.out.off (b := r8) (o := 1) (v := I 4) HNE.out.1).off (b := r8) (o := 5) (v := .string fr) HNE.out.1).off (b := r8) (o := 6) (v := .string dst) HNE.out.1)
          have HRw8 : Hid (Blk w8 rb 66 [I 0, I 0, .string { data := #[] }, .string { data := #[] }, I 0, .string { data := #[] }, .string { data := #[] }, I 0]) := by rw [hw]; exact (((HRw7.out.off (b := r8) (o := 1) (v := I 4) HNE.out.2.1).off (b := r8) (o := 5) (v := .string fr) HNE.out.2.1).off (b := r8) (o := 6) (v := .string dst) HNE.out.2.1)
          have HGw8 : Hid (G W w8) := by rw [hw]; exact (((HGw7.out.setCell HNE.out.2.2.1 (I 4)).setCell HNE.out.2.2.1 (.string fr)).setCell HNE.out.2.2.1 (.string dst))
          have HES : Hid ((((w7.setCell ⟨r8, 1, none⟩ (I 4)).setCell ⟨r8, 5, none⟩ (.string fr)).setCell ⟨r8, 6, none⟩ (.string dst)) = w8) := hw.symm
          clear hw
          have cN := HNw7.out.cell
          have c8 := H8w7.out.cell
          have z8 := H8w7.out.frozen
          have cNx : ∀ o, (((w7.setCell ⟨r8, 1, none⟩ (I 4)).setCell ⟨r8, 5, none⟩ (.string fr)).setCell ⟨r8, 6, none⟩ (.string dst)).cell? ⟨B0, o, none⟩ = ([I id, .string lb, .slice pa pn pc] : List Value)[o]? := by rw [HES.out]; exact HNw8.out.cell
          have c8x : ∀ o, (((w7.setCell ⟨r8, 1, none⟩ (I 4)).setCell ⟨r8, 5, none⟩ (.string fr)).setCell ⟨r8, 6, none⟩ (.string dst)).cell? ⟨r8, o, none⟩ = ([I id, I 4, .string of, .string { data := #[] }, I 0, .string fr, .string dst, I 0] : List Value)[o]? := by rw [HES.out]; exact H8w8.out.cell
          have cNo := HNw8.out.cell
          have c8o := H8w8.out.cell
          go_wp2_with (first | (rw [HES.out]; clear HES) | (rw [HEX.out]; (try rw [HE8.out]); clear HEX) | (rw [HEV.out]; (try rw [HEB.out]); clear HEV) | fail)
          try rw [HEX.out]
          (try rw [HE8.out])
          try rw [HES.out]
          clear cN c8 z8 cNx c8x cNo c8o
          go_meet
          case rel => exact ⟨by first | rfl | (rw [hd]; rfl) | (rw [ht]; rfl) | (rw [ht, hd]; rfl), rfl, H8w8.out, HNw8.out, HRw8.out, HGw8.out⟩
        | true =>
          have cN := HNw5.out.cell
          have c8 := H8w5.out.cell
          have z8 := H8w5.out.frozen
          go_wp2_with fail
          clear cN
          clear c8 z8
          refine (HLF.out w5 HGw5.out).mono ?_
          rintro e w6 ⟨rfl, hg'⟩
          have HNw6 := hide (HNw5.out.G hg'); have HRw6 := hide (HRw5.out.G hg'); have HGw6 := hide (HGw5.out.trans hg')
          have H8w6 := hide (H8w5.out.G hg')
          clear hg'
          have cN := HNw6.out.cell
          have c8 := H8w6.out.cell
          have z8 := H8w6.out.frozen
          go_wp2_with fail
          clear cN
          clear c8 z8
          refine (HLT.out w6 HGw6.out).mono ?_
          rintro e w7 ⟨rfl, hg'⟩
          have HNw7 := hide (HNw6.out.G hg'); have HRw7 := hide (HRw6.out.G hg'); have HGw7 := hide (HGw6.out.trans hg')
          have H8w7 := hide (H8w6.out.G hg')
          clear hg'
          obtain ⟨w8, hw⟩ : ∃ w, w = (((w7.setCell ⟨r8, 1, none⟩ (I 4)).setCell ⟨r8, 5, none⟩ (.string fr)).setCell ⟨r8, 6, none⟩ (.string dst)) := ⟨_, rfl⟩
          have H8w8 : Hid (Blk w8 r8 66 [I id, I 4, .string of, .string { data := #[] }, I 0, .string fr, .string dst, I 0]) := by rw [hw]; exact (((H8w7.out.set 1 (I 4)).set 5 (.string fr)).set 6 (.string dst))
          have HNw8 : Hid (Blk w8 B0 69 [I id, .string lb, .slice pa pn pc]) := by rw [hw]; exact (((HNw7.out.off (b := r8) (o := 1) (v := I 4) HNE.out.1).off (b := r8) (o := 5) (v := .string fr) HNE.out.1).off (b := r8) (o := 6) (v := .string dst) HNE.out.1)
          have HRw8 : Hid (Blk w8 rb 66 [I 0, I 0, .string { data := #[] }, .string { data := #[] }, I 0, .string { data := #[] }, .string { data := #[] }, I 0]) := by rw [hw]; exact (((HRw7.out.off (b := r8) (o := 1) (v := I 4) HNE.out.2.1).off (b := r8) (o := 5) (v := .string fr) HNE.out.2.1).off (b := r8) (o := 6) (v := .string dst) HNE.out.2.1)
          have HGw8 : Hid (G W w8) := by rw [hw]; exact (((HGw7.out.setCell HNE.out.2.2.1 (I 4)).setCell HNE.out.2.2.1 (.string fr)).setCell HNE.out.2.2.1 (.string dst))
          have HES : Hid ((((w7.setCell ⟨r8, 1, none⟩ (I 4)).setCell ⟨r8, 5, none⟩ (.string fr)).setCell ⟨r8, 6, none⟩ (.string dst)) = w8) := hw.symm
          clear hw
          have cN := HNw7.out.cell
          have c8 := H8w7.out.cell
          have z8 := H8w7.out.frozen
          have cNx : ∀ o, (((w7.setCell ⟨r8, 1, none⟩ (I 4)).setCell ⟨r8, 5, none⟩ (.string fr)).setCell ⟨r8, 6, none⟩ (.string dst)).cell? ⟨B0, o, none⟩ = ([I id, .string lb, .slice pa pn pc] : List Value)[o]? := by rw [HES.out]; exact HNw8.out.cell
          have c8x : ∀ o, (((w7.setCell ⟨r8, 1, none⟩ (I 4)).setCell ⟨r8, 5, none⟩ (.string fr)).setCell ⟨r8, 6, none⟩ (.string dst)).cell? ⟨r8, o, none⟩ = ([I id, I 4, .string of, .string { data := #[] }, I 0, .string fr, .string dst, I 0] : List Value)[o]? := by rw [HES.out]; exact H8w8.out.cell
          have cNo := HNw8.out.cell
          have c8o := H8w8.out.cell
          go_wp2_with (first | (rw [HES.out]; clear HES) | (rw [HEX.out]; (try rw [HE8.out]); clear HEX) | (rw [HEV.out]; (try rw [HEB.out]); clear HEV) | fail)
          try rw [HEX.out]
          (try rw [HE8.out])
          try rw [HES.out]
          clear cN c8 z8 cNx c8x cNo c8o
          go_meet
          case rel => exact ⟨by first | rfl | (rw [hd]; rfl) | (rw [ht]; rfl) | (rw [ht, hd]; rfl), rfl, H8w8.out, HNw8.out, HRw8.out, HGw8.out⟩
    have hk3 := hk
    clear hk
    by_cases hk : kk.toList = [109, 111, 115, 116]
    · unfold saysR1 at hr
      rw [if_neg hk0, if_neg hk1, if_neg hk2, if_neg hk3, if_pos hk] at hr
      unfold saysO1 at hok
      rw [if_neg hk0, if_neg hk1, if_neg hk2, if_neg hk3, if_pos hk] at hok
      unfold saysM1 at hm
      rw [if_neg hk0, if_neg hk1, if_neg hk2, if_neg hk3, if_pos hk] at hm
      subst hr hok hm
      have e0 : (kk.toList == [117, 110, 105, 113, 117, 101]) = false := by rw [hk]; decide
      have e1 : (kk.toList == [110, 101, 101, 100, 115]) = false := by rw [hk]; decide
      have e2 : (kk.toList == [111, 110, 108, 121]) = false := by rw [hk]; decide
      have e3 : (kk.toList == [108, 105, 110, 107]) = false := by rw [hk]; decide
      have e4 : (kk.toList == [109, 111, 115, 116]) = true := by rw [hk]; decide
      clear hk0 hk1 hk2 hk3 hk
      cases bn with
      | false =>
        have cN := HNw5.out.cell
        have c8 := H8w5.out.cell
        have z8 := H8w5.out.frozen
        go_wp2_with fail
        clear cN
        clear c8 z8
        refine (HM.out w5 HGw5.out).mono ?_
        rintro e w6 ⟨rfl, hg'⟩
        have HNw6 := hide (HNw5.out.G hg'); have HRw6 := hide (HRw5.out.G hg'); have HGw6 := hide (HGw5.out.trans hg')
        have H8w6 := hide (H8w5.out.G hg')
        clear hg'
        obtain ⟨wv, hw⟩ : ∃ w, w = (w6.alloc (.cells #[I nk, I na, I nb, .string nz] 41)) := ⟨_, rfl⟩
        obtain ⟨rV, hrV⟩ : ∃ r, r = w6.heap.size := ⟨_, rfl⟩
        have hg' : G w6 wv := by rw [hw]; exact (G.refl _).alloc _
        have HVB : Hid (Blk wv rV 41 [I nk, I na, I nb, .string nz]) := by rw [Hid, hw, hrV]; exact Blk.new w6 [I nk, I na, I nb, .string nz] 41
        have HNwv := hide (HNw6.out.G hg'); have HRwv := hide (HRw6.out.G hg'); have HGwv := hide (HGw6.out.trans hg'); have H8wv := hide (H8w6.out.G hg')
        have HEV : Hid ((w6.alloc (.cells #[I nk, I na, I nb, .string nz] 41)) = wv) := hw.symm
        have HEB : Hid (w6.heap.size = rV) := hrV.symm
        have HNV : Hid (rV ≠ r8) := by have := H8w6.out.lt; show _ ≠ _; omega
        clear hw hrV hg'
        have cV := HVB.out.cell
        obtain ⟨w8, hw⟩ : ∃ w, w = ((wv.setCell ⟨r8, 1, none⟩ (I 5)).setCell ⟨r8, 7, none⟩ (I na)) := ⟨_, rfl⟩
        have H8w8 : Hid (Blk w8 r8 66 [I id, I 5, .string of, .string { data := #[] }, I 0, .string { data := #[] }, .string { data := #[] }, I na]) := by rw [hw]; exact ((H8wv.out.set 1 (I 5)).set 7 (I na))
        have HNw8 : Hid (Blk w8 B0 69 [I id, .string lb, .slice pa pn pc]) := by rw [hw]; exact ((HNwv.out.off (b := r8) (o := 1) (v := I 5) HNE.out.1).off (b := r8) (o := 7) (v := I na) HNE.out.1)
        have HRw8 : Hid (Blk w8 rb 66 [I 0, I 0, .string { data := #[] }, .string { data := #[] }, I 0, .string { data := #[] }, .string { data := #[] }, I 0]) := by rw [hw]; exact ((HRwv.out.off (b := r8) (o := 1) (v := I 5) HNE.out.2.1).off (b := r8) (o := 7) (v := I na) HNE.out.2.1)
        have HGw8 : Hid (G W w8) := by rw [hw]; exact ((HGwv.out.setCell HNE.out.2.2.1 (I 5)).setCell HNE.out.2.2.1 (I na))
        have HES : Hid (((wv.setCell ⟨r8, 1, none⟩ (I 5)).setCell ⟨r8, 7, none⟩ (I na)) = w8) := hw.symm
        clear hw
        have cN := HNwv.out.cell
        have c8 := H8wv.out.cell
        have z8 := H8wv.out.frozen
        have cNx : ∀ o, ((wv.setCell ⟨r8, 1, none⟩ (I 5)).setCell ⟨r8, 7, none⟩ (I na)).cell? ⟨B0, o, none⟩ = ([I id, .string lb, .slice pa pn pc] : List Value)[o]? := by rw [HES.out]; exact HNw8.out.cell
        have c8x : ∀ o, ((wv.setCell ⟨r8, 1, none⟩ (I 5)).setCell ⟨r8, 7, none⟩ (I na)).cell? ⟨r8, o, none⟩ = ([I id, I 5, .string of, .string { data := #[] }, I 0, .string { data := #[] }, .string { data := #[] }, I na] : List Value)[o]? := by rw [HES.out]; exact H8w8.out.cell
        have cNo := HNw8.out.cell
        have c8o := H8w8.out.cell
        have cV1 := (HVB.out.off (b := r8) (o := 1) (v := I 5) HNV.out).cell
        have cV2 := ((HVB.out.off (b := r8) (o := 1) (v := I 5) HNV.out).off (b := r8) (o := 7) (v := I na) HNV.out).cell
        have cV8 : ∀ o, w8.cell? ⟨rV, o, none⟩ = ([I nk, I na, I nb, .string nz] : List Value)[o]? := by rw [← HES.out]; exact cV2
        go_wp2_with (first | (rw [HES.out]; clear HES) | (rw [HEX.out]; (try rw [HE8.out]); clear HEX) | (rw [HEV.out]; (try rw [HEB.out]); clear HEV) | fail)
        try rw [HEX.out]
        (try rw [HE8.out])
        try rw [HES.out]
        clear cN c8 z8 cNx c8x cNo c8o
        go_meet
        case rel => exact ⟨by first | rfl | (rw [hd]; rfl) | (rw [ht]; rfl) | (rw [ht, hd]; rfl), rfl, H8w8.out, HNw8.out, HRw8.out, HGw8.out⟩
      | true =>
        cases ht : (nk == 2) with
        | false =>
          have cN := HNw5.out.cell
          have c8 := H8w5.out.cell
          have z8 := H8w5.out.frozen
          go_wp2_with fail
          clear cN
          clear c8 z8
          refine (HM.out w5 HGw5.out).mono ?_
          rintro e w6 ⟨rfl, hg'⟩
          have HNw6 := hide (HNw5.out.G hg'); have HRw6 := hide (HRw5.out.G hg'); have HGw6 := hide (HGw5.out.trans hg')
          have H8w6 := hide (H8w5.out.G hg')
          clear hg'
          obtain ⟨wv, hw⟩ : ∃ w, w = (w6.alloc (.cells #[I nk, I na, I nb, .string nz] 41)) := ⟨_, rfl⟩
          obtain ⟨rV, hrV⟩ : ∃ r, r = w6.heap.size := ⟨_, rfl⟩
          have hg' : G w6 wv := by rw [hw]; exact (G.refl _).alloc _
          have HVB : Hid (Blk wv rV 41 [I nk, I na, I nb, .string nz]) := by rw [Hid, hw, hrV]; exact Blk.new w6 [I nk, I na, I nb, .string nz] 41
          have HNwv := hide (HNw6.out.G hg'); have HRwv := hide (HRw6.out.G hg'); have HGwv := hide (HGw6.out.trans hg'); have H8wv := hide (H8w6.out.G hg')
          have HEV : Hid ((w6.alloc (.cells #[I nk, I na, I nb, .string nz] 41)) = wv) := hw.symm
          have HEB : Hid (w6.heap.size = rV) := hrV.symm
          have HNV : Hid (rV ≠ r8) := by have := H8w6.out.lt; show _ ≠ _; omega
          clear hw hrV hg'
          have cV := HVB.out.cell
          obtain ⟨w8, hw⟩ : ∃ w, w = ((wv.setCell ⟨r8, 1, none⟩ (I 5)).setCell ⟨r8, 7, none⟩ (I na)) := ⟨_, rfl⟩
          have H8w8 : Hid (Blk w8 r8 66 [I id, I 5, .string of, .string { data := #[] }, I 0, .string { data := #[] }, .string { data := #[] }, I na]) := by rw [hw]; exact ((H8wv.out.set 1 (I 5)).set 7 (I na))
          have HNw8 : Hid (Blk w8 B0 69 [I id, .string lb, .slice pa pn pc]) := by rw [hw]; exact ((HNwv.out.off (b := r8) (o := 1) (v := I 5) HNE.out.1).off (b := r8) (o := 7) (v := I na) HNE.out.1)
          have HRw8 : Hid (Blk w8 rb 66 [I 0, I 0, .string { data := #[] }, .string { data := #[] }, I 0, .string { data := #[] }, .string { data := #[] }, I 0]) := by rw [hw]; exact ((HRwv.out.off (b := r8) (o := 1) (v := I 5) HNE.out.2.1).off (b := r8) (o := 7) (v := I na) HNE.out.2.1)
          have HGw8 : Hid (G W w8) := by rw [hw]; exact ((HGwv.out.setCell HNE.out.2.2.1 (I 5)).setCell HNE.out.2.2.1 (I na))
          have HES : Hid (((wv.setCell ⟨r8, 1, none⟩ (I 5)).setCell ⟨r8, 7, none⟩ (I na)) = w8) := hw.symm
          clear hw
          have cN := HNwv.out.cell
          have c8 := H8wv.out.cell
          have z8 := H8wv.out.frozen
          have cNx : ∀ o, ((wv.setCell ⟨r8, 1, none⟩ (I 5)).setCell ⟨r8, 7, none⟩ (I na)).cell? ⟨B0, o, none⟩ = ([I id, .string lb, .slice pa pn pc] : List Value)[o]? := by rw [HES.out]; exact HNw8.out.cell
          have c8x : ∀ o, ((wv.setCell ⟨r8, 1, none⟩ (I 5)).setCell ⟨r8, 7, none⟩ (I na)).cell? ⟨r8, o, none⟩ = ([I id, I 5, .string of, .string { data := #[] }, I 0, .string { data := #[] }, .string { data := #[] }, I na] : List Value)[o]? := by rw [HES.out]; exact H8w8.out.cell
          have cNo := HNw8.out.cell
          have c8o := H8w8.out.cell
          have cV1 := (HVB.out.off (b := r8) (o := 1) (v := I 5) HNV.out).cell
          have cV2 := ((HVB.out.off (b := r8) (o := 1) (v := I 5) HNV.out).off (b := r8) (o := 7) (v := I na) HNV.out).cell
          have cV8 : ∀ o, w8.cell? ⟨rV, o, none⟩ = ([I nk, I na, I nb, .string nz] : List Value)[o]? := by rw [← HES.out]; exact cV2
          go_wp2_with (first | (rw [HES.out]; clear HES) | (rw [HEX.out]; (try rw [HE8.out]); clear HEX) | (rw [HEV.out]; (try rw [HEB.out]); clear HEV) | fail)
          try rw [HEX.out]
          (try rw [HE8.out])
          try rw [HES.out]
          clear cN c8 z8 cNx c8x cNo c8o
          go_meet
          case rel => exact ⟨by first | rfl | (rw [hd]; rfl) | (rw [ht]; rfl) | (rw [ht, hd]; rfl), rfl, H8w8.out, HNw8.out, HRw8.out, HGw8.out⟩
        | true =>
          cases hd : decide (na ≥ 0) with
          | false =>
            have cN := HNw5.out.cell
            have c8 := H8w5.out.cell
            have z8 := H8w5.out.frozen
            go_wp2_with fail
            clear cN
            clear c8 z8
            refine (HM.out w5 HGw5.out).mono ?_
            rintro e w6 ⟨rfl, hg'⟩
            have HNw6 := hide (HNw5.out.G hg'); have HRw6 := hide (HRw5.out.G hg'); have HGw6 := hide (HGw5.out.trans hg')
            have H8w6 := hide (H8w5.out.G hg')
            clear hg'
            obtain ⟨wv, hw⟩ : ∃ w, w = (w6.alloc (.cells #[I nk, I na, I nb, .string nz] 41)) := ⟨_, rfl⟩
            obtain ⟨rV, hrV⟩ : ∃ r, r = w6.heap.size := ⟨_, rfl⟩
            have hg' : G w6 wv := by rw [hw]; exact (G.refl _).alloc _
            have HVB : Hid (Blk wv rV 41 [I nk, I na, I nb, .string nz]) := by rw [Hid, hw, hrV]; exact Blk.new w6 [I nk, I na, I nb, .string nz] 41
            have HNwv := hide (HNw6.out.G hg'); have HRwv := hide (HRw6.out.G hg'); have HGwv := hide (HGw6.out.trans hg'); have H8wv := hide (H8w6.out.G hg')
            have HEV : Hid ((w6.alloc (.cells #[I nk, I na, I nb, .string nz] 41)) = wv) := hw.symm
            have HEB : Hid (w6.heap.size = rV) := hrV.symm
            have HNV : Hid (rV ≠ r8) := by have := H8w6.out.lt; show _ ≠ _; omega
            clear hw hrV hg'
            have cV := HVB.out.cell
            obtain ⟨w8, hw⟩ : ∃ w, w = ((wv.setCell ⟨r8, 1, none⟩ (I 5)).setCell ⟨r8, 7, none⟩ (I na)) := ⟨_, rfl⟩
            have H8w8 : Hid (Blk w8 r8 66 [I id, I 5, .string of, .string { data := #[] }, I 0, .string { data := #[] }, .string { data := #[] }, I na]) := by rw [hw]; exact ((H8wv.out.set 1 (I 5)).set 7 (I na))
            have HNw8 : Hid (Blk w8 B0 69 [I id, .string lb, .slice pa pn pc]) := by rw [hw]; exact ((HNwv.out.off (b := r8) (o := 1) (v := I 5) HNE.out.1).off (b := r8) (o := 7) (v := I na) HNE.out.1)
            have HRw8 : Hid (Blk w8 rb 66 [I 0, I 0, .string { data := #[] }, .string { data := #[] }, I 0, .string { data := #[] }, .string { data := #[] }, I 0]) := by rw [hw]; exact ((HRwv.out.off (b := r8) (o := 1) (v := I 5) HNE.out.2.1).off (b := r8) (o := 7) (v := I na) HNE.out.2.1)
            have HGw8 : Hid (G W w8) := by rw [hw]; exact ((HGwv.out.setCell HNE.out.2.2.1 (I 5)).setCell HNE.out.2.2.1 (I na))
            have HES : Hid (((wv.setCell ⟨r8, 1, none⟩ (I 5)).setCell ⟨r8, 7, none⟩ (I na)) = w8) := hw.symm
            clear hw
            have cN := HNwv.out.cell
            have c8 := H8wv.out.cell
            have z8 := H8wv.out.frozen
            have cNx : ∀ o, ((wv.setCell ⟨r8, 1, none⟩ (I 5)).setCell ⟨r8, 7, none⟩ (I na)).cell? ⟨B0, o, none⟩ = ([I id, .string lb, .slice pa pn pc] : List Value)[o]? := by rw [HES.out]; exact HNw8.out.cell
            have c8x : ∀ o, ((wv.setCell ⟨r8, 1, none⟩ (I 5)).setCell ⟨r8, 7, none⟩ (I na)).cell? ⟨r8, o, none⟩ = ([I id, I 5, .string of, .string { data := #[] }, I 0, .string { data := #[] }, .string { data := #[] }, I na] : List Value)[o]? := by rw [HES.out]; exact H8w8.out.cell
            have cNo := HNw8.out.cell
            have c8o := H8w8.out.cell
            have cV1 := (HVB.out.off (b := r8) (o := 1) (v := I 5) HNV.out).cell
            have cV2 := ((HVB.out.off (b := r8) (o := 1) (v := I 5) HNV.out).off (b := r8) (o := 7) (v := I na) HNV.out).cell
            have cV8 : ∀ o, w8.cell? ⟨rV, o, none⟩ = ([I nk, I na, I nb, .string nz] : List Value)[o]? := by rw [← HES.out]; exact cV2
            go_wp2_with (first | (rw [HES.out]; clear HES) | (rw [HEX.out]; (try rw [HE8.out]); clear HEX) | (rw [HEV.out]; (try rw [HEB.out]); clear HEV) | fail)
            try rw [HEX.out]
            (try rw [HE8.out])
            try rw [HES.out]
            clear cN c8 z8 cNx c8x cNo c8o
            go_meet
            case rel => exact ⟨by first | rfl | (rw [hd]; rfl) | (rw [ht]; rfl) | (rw [ht, hd]; rfl), rfl, H8w8.out, HNw8.out, HRw8.out, HGw8.out⟩
          | true =>
            have hd2 := of_decide_eq_true hd
            have cN := HNw5.out.cell
            have c8 := H8w5.out.cell
            have z8 := H8w5.out.frozen
            go_wp2_with fail
            clear cN
            clear c8 z8
            refine (HM.out w5 HGw5.out).mono ?_
            rintro e w6 ⟨rfl, hg'⟩
            have HNw6 := hide (HNw5.out.G hg'); have HRw6 := hide (HRw5.out.G hg'); have HGw6 := hide (HGw5.out.trans hg')
            have H8w6 := hide (H8w5.out.G hg')
            clear hg'
            obtain ⟨wv, hw⟩ : ∃ w, w = (w6.alloc (.cells #[I nk, I na, I nb, .string nz] 41)) := ⟨_, rfl⟩
            obtain ⟨rV, hrV⟩ : ∃ r, r = w6.heap.size := ⟨_, rfl⟩
            have hg' : G w6 wv := by rw [hw]; exact (G.refl _).alloc _
            have HVB : Hid (Blk wv rV 41 [I nk, I na, I nb, .string nz]) := by rw [Hid, hw, hrV]; exact Blk.new w6 [I nk, I na, I nb, .string nz] 41
            have HNwv := hide (HNw6.out.G hg'); have HRwv := hide (HRw6.out.G hg'); have HGwv := hide (HGw6.out.trans hg'); have H8wv := hide (H8w6.out.G hg')
            have HEV : Hid ((w6.alloc (.cells #[I nk, I na, I nb, .string nz] 41)) = wv) := hw.symm
            have HEB : Hid (w6.heap.size = rV) := hrV.symm
            have HNV : Hid (rV ≠ r8) := by have := H8w6.out.lt; show _ ≠ _; omega
            clear hw hrV hg'
            have cV := HVB.out.cell
            obtain ⟨w8, hw⟩ : ∃ w, w = ((wv.setCell ⟨r8, 1, none⟩ (I 5)).setCell ⟨r8, 7, none⟩ (I na)) := ⟨_, rfl⟩
            have H8w8 : Hid (Blk w8 r8 66 [I id, I 5, .string of, .string { data := #[] }, I 0, .string { data := #[] }, .string { data := #[] }, I na]) := by rw [hw]; exact ((H8wv.out.set 1 (I 5)).set 7 (I na))
            have HNw8 : Hid (Blk w8 B0 69 [I id, .string lb, .slice pa pn pc]) := by rw [hw]; exact ((HNwv.out.off (b := r8) (o := 1) (v := I 5) HNE.out.1).off (b := r8) (o := 7) (v := I na) HNE.out.1)
            have HRw8 : Hid (Blk w8 rb 66 [I 0, I 0, .string { data := #[] }, .string { data := #[] }, I 0, .string { data := #[] }, .string { data := #[] }, I 0]) := by rw [hw]; exact ((HRwv.out.off (b := r8) (o := 1) (v := I 5) HNE.out.2.1).off (b := r8) (o := 7) (v := I na) HNE.out.2.1)
            have HGw8 : Hid (G W w8) := by rw [hw]; exact ((HGwv.out.setCell HNE.out.2.2.1 (I 5)).setCell HNE.out.2.2.1 (I na))
            have HES : Hid (((wv.setCell ⟨r8, 1, none⟩ (I 5)).setCell ⟨r8, 7, none⟩ (I na)) = w8) := hw.symm
            clear hw
            have cN := HNwv.out.cell
            have c8 := H8wv.out.cell
            have z8 := H8wv.out.frozen
            have cNx : ∀ o, ((wv.setCell ⟨r8, 1, none⟩ (I 5)).setCell ⟨r8, 7, none⟩ (I na)).cell? ⟨B0, o, none⟩ = ([I id, .string lb, .slice pa pn pc] : List Value)[o]? := by rw [HES.out]; exact HNw8.out.cell
            have c8x : ∀ o, ((wv.setCell ⟨r8, 1, none⟩ (I 5)).setCell ⟨r8, 7, none⟩ (I na)).cell? ⟨r8, o, none⟩ = ([I id, I 5, .string of, .string { data := #[] }, I 0, .string { data := #[] }, .string { data := #[] }, I na] : List Value)[o]? := by rw [HES.out]; exact H8w8.out.cell
            have cNo := HNw8.out.cell
            have c8o := H8w8.out.cell
            have cV1 := (HVB.out.off (b := r8) (o := 1) (v := I 5) HNV.out).cell
            have cV2 := ((HVB.out.off (b := r8) (o := 1) (v := I 5) HNV.out).off (b := r8) (o := 7) (v := I na) HNV.out).cell
            have cV8 : ∀ o, w8.cell? ⟨rV, o, none⟩ = ([I nk, I na, I nb, .string nz] : List Value)[o]? := by rw [← HES.out]; exact cV2
            go_wp2_with (first | (rw [HES.out]; clear HES) | (rw [HEX.out]; (try rw [HE8.out]); clear HEX) | (rw [HEV.out]; (try rw [HEB.out]); clear HEV) | fail)
            try rw [HEX.out]
            (try rw [HE8.out])
            try rw [HES.out]
            clear cN c8 z8 cNx c8x cNo c8o
            go_meet
            case rel => exact ⟨by first | rfl | (rw [hd]; rfl) | (rw [ht]; rfl) | (rw [ht, hd]; rfl), rfl, H8w8.out, HNw8.out, HRw8.out, HGw8.out⟩
    have hk4 := hk
    clear hk
    by_cases hk : kk.toList = [111, 114, 100, 101, 114]
    · unfold saysR1 at hr
      rw [if_neg hk0, if_neg hk1, if_neg hk2, if_neg hk3, if_neg hk4, if_pos hk] at hr
      unfold saysO1 at hok
      rw [if_neg hk0, if_neg hk1, if_neg hk2, if_neg hk3, if_neg hk4, if_pos hk] at hok
      unfold saysM1 at hm
      rw [if_neg hk0, if_neg hk1, if_neg hk2, if_neg hk3, if_neg hk4] at hm
      subst hr hok hm
      have e0 : (kk.toList == [117, 110, 105, 113, 117, 101]) = false := by rw [hk]; decide
      have e1 : (kk.toList == [110, 101, 101, 100, 115]) = false := by rw [hk]; decide
      have e2 : (kk.toList == [111, 110, 108, 121]) = false := by rw [hk]; decide
      have e3 : (kk.toList == [108, 105, 110, 107]) = false := by rw [hk]; decide
      have e4 : (kk.toList == [109, 111, 115, 116]) = false := by rw [hk]; decide
      have e5 : (kk.toList == [111, 114, 100, 101, 114]) = true := by rw [hk]; decide
      clear hk0 hk1 hk2 hk3 hk4 hk
      obtain ⟨w9, hw⟩ : ∃ w, w = (w5.setCell ⟨r8, 1, none⟩ (I 6)) := ⟨_, rfl⟩
      have H8w9 : Hid (Blk w9 r8 66 [I id, I 6, .string of, .string { data := #[] }, I 0, .string { data := #[] }, .string { data := #[] }, I 0]) := by rw [hw]; exact (H8w5.out.set 1 (I 6))
      have HNw9 : Hid (Blk w9 B0 69 [I id, .string lb, .slice pa pn pc]) := by rw [hw]; exact (HNw5.out.off (b := r8) (o := 1) (v := I 6) HNE.out.1)
      have HRw9 : Hid (Blk w9 rb 66 [I 0, I 0, .string { data := #[] }, .string { data := #[] }, I 0, .string { data := #[] }, .string { data := #[] }, I 0]) := by rw [hw]; exact (HRw5.out.off (b := r8) (o := 1) (v := I 6) HNE.out.2.1)
      have HGw9 : Hid (G W w9) := by rw [hw]; exact (HGw5.out.setCell HNE.out.2.2.1 (I 6))
      have HES : Hid ((w5.setCell ⟨r8, 1, none⟩ (I 6)) = w9) := hw.symm
      clear hw
      have cN := HNw5.out.cell
      have c8 := H8w5.out.cell
      have z8 := H8w5.out.frozen
      have cNx : ∀ o, (w5.setCell ⟨r8, 1, none⟩ (I 6)).cell? ⟨B0, o, none⟩ = ([I id, .string lb, .slice pa pn pc] : List Value)[o]? := by rw [HES.out]; exact HNw9.out.cell
      have c8x : ∀ o, (w5.setCell ⟨r8, 1, none⟩ (I 6)).cell? ⟨r8, o, none⟩ = ([I id, I 6, .string of, .string { data := #[] }, I 0, .string { data := #[] }, .string { data := #[] }, I 0] : List Value)[o]? := by rw [HES.out]; exact H8w9.out.cell
      have cNo := HNw9.out.cell
      have c8o := H8w9.out.cell
      go_wp2_with (first | (rw [HES.out]; clear HES) | (rw [HEX.out]; (try rw [HE8.out]); clear HEX) | (rw [HEV.out]; (try rw [HEB.out]); clear HEV) | fail)
      try rw [HEX.out]
      (try rw [HE8.out])
      try rw [HES.out]
      clear cN c8 z8 cNx c8x cNo c8o
      go_meet
      case rel => exact ⟨by first | rfl | (rw [hd]; rfl) | (rw [ht]; rfl) | (rw [ht, hd]; rfl), rfl, H8w9.out, HNw9.out, HRw9.out, HGw9.out⟩
    have hk5 := hk
    clear hk
    unfold saysR1 at hr
    rw [if_neg hk0, if_neg hk1, if_neg hk2, if_neg hk3, if_neg hk4, if_neg hk5] at hr
    unfold saysO1 at hok
    rw [if_neg hk0, if_neg hk1, if_neg hk2, if_neg hk3, if_neg hk4, if_neg hk5] at hok
    unfold saysM1 at hm
    rw [if_neg hk0, if_neg hk1, if_neg hk2, if_neg hk3, if_neg hk4] at hm
    subst hr hok hm
    have e0 : (kk.toList == [117, 110, 105, 113, 117, 101]) = false := beq_false_of_ne hk0
    have e1 : (kk.toList == [110, 101, 101, 100, 115]) = false := beq_false_of_ne hk1
    have e2 : (kk.toList == [111, 110, 108, 121]) = false := beq_false_of_ne hk2
    have e3 : (kk.toList == [108, 105, 110, 107]) = false := beq_false_of_ne hk3
    have e4 : (kk.toList == [109, 111, 115, 116]) = false := beq_false_of_ne hk4
    have e5 : (kk.toList == [111, 114, 100, 101, 114]) = false := beq_false_of_ne hk5
    clear hk0 hk1 hk2 hk3 hk4 hk5
    go_wp2_with fail
    go_meet
    case rel => exact ⟨by first | rfl | (rw [hd]; rfl) | (rw [ht]; rfl) | (rw [ht, hd]; rfl), rfl, H8w5.out, HNw5.out, HRw5.out, HGw5.out⟩
  case rest =>
    obtain ⟨rfl, rfl, h8, hn, hrb, hg⟩ := hcut
    have HNwc := hide hn; have HRwc := hide hrb; have H8wc := hide h8; have HGwc := hide hg
    clear h8 hn hrb hg HY HT HLF HLT HM HKN HK HO H8w5 HNw5 HRw5 HGw5 HRES
    cases ok with
    | true =>
      go_wp2_with fail
      refine wp_region_noPanic ?_
      refine wp_region_held_drew (S := (fun V => (∀ o, V.cell? ⟨B0, o, none⟩ = ([I id, .string lb, .slice pa pn pc] : List Value)[o]?) ∧ (∀ o, V.cell? ⟨r8, o, none⟩ = ([I r.id, I r.kind, .string r.of, .string r.key, I r.is, .string r.fr, .string r.dst, I r.n] : List Value)[o]?) ∧ G W V)) (by kernel_rfl) (⟨(HNwc.out.G (G.refl _).drew).cell, (H8wc.out.G (G.refl _).drew).cell, HGwc.out.drew⟩) (fun hHeld => ?_)
      refine wpAnyH_take (i := 0) (v := ?_) rfl (by kernel_rfl) (by kernel_rfl) (by kernel_rfl) (fun _ _ _ h => h) (Or.inl ⟨by rfl, ?_⟩) hHeld ?_
      rotate_left 1
      · (intro w hSw; obtain ⟨k1, k2, -⟩ := hSw; go_simp; try with_reducible rfl)
      try simp only [Act.put, List.getElem_toArray, List.getElem_cons_zero, List.setIfInBounds_toArray, List.set_cons_zero, List.set_cons_succ]
      refine wpAnyH_take (i := 1) (v := ?_) rfl (by kernel_rfl) (by kernel_rfl) (by kernel_rfl) (fun _ _ _ h => h) (Or.inl ⟨by rfl, ?_⟩) hHeld ?_
      rotate_left 1
      · (intro w hSw; (try dsimp only at hSw); go_simp; try with_reducible rfl)
      try simp only [Act.put, List.getElem_toArray, List.getElem_cons_zero, List.getElem_cons_succ, List.setIfInBounds_toArray, List.set_cons_zero, List.set_cons_succ]
      refine wpAnyH_take (i := 2) (v := ?_) rfl (by kernel_rfl) (by kernel_rfl) (by kernel_rfl) (fun _ _ _ h => h) (Or.inl ⟨by rfl, ?_⟩) hHeld ?_
      rotate_left 1
      · (intro w hSw; (try dsimp only at hSw); go_simp; try with_reducible rfl)
      try simp only [Act.put, List.getElem_toArray, List.getElem_cons_zero, List.getElem_cons_succ, List.setIfInBounds_toArray, List.set_cons_zero, List.set_cons_succ]
      refine wpAnyH_take (i := 3) (v := ?_) rfl (by kernel_rfl) (by kernel_rfl) (by kernel_rfl) (fun _ _ _ h => h) (Or.inl ⟨by rfl, ?_⟩) hHeld ?_
      rotate_left 1
      · (intro w hSw; (try dsimp only at hSw); go_simp; try with_reducible rfl)
      try simp only [Act.put, List.getElem_toArray, List.getElem_cons_zero, List.getElem_cons_succ, List.setIfInBounds_toArray, List.set_cons_zero, List.set_cons_succ]
      refine wpAnyH_take (i := 4) (v := ?_) rfl (by kernel_rfl) (by kernel_rfl) (by kernel_rfl) (fun _ _ _ h => h) (Or.inl ⟨by rfl, ?_⟩) hHeld ?_
      rotate_left 1
      · (intro w hSw; obtain ⟨k1, k2, -⟩ := hSw; go_simp; try with_reducible rfl)
      try simp only [Act.put, List.getElem_toArray, List.getElem_cons_zero, List.getElem_cons_succ, List.setIfInBounds_toArray, List.set_cons_zero, List.set_cons_succ]
      refine wpAnyH_take (i := 5) (v := ?_) rfl (by kernel_rfl) (by kernel_rfl) (by kernel_rfl) (fun _ _ _ h => h) (Or.inl ⟨by rfl, ?_⟩) hHeld ?_
      rotate_left 1
      · (intro w hSw; (try dsimp only at hSw); go_simp; try with_reducible rfl)
      try simp only [Act.put, List.getElem_toArray, List.getElem_cons_zero, List.getElem_cons_succ, List.setIfInBounds_toArray, List.set_cons_zero, List.set_cons_succ]
      refine wpAnyH_take (i := 6) (v := ?_) rfl (by kernel_rfl) (by kernel_rfl) (by kernel_rfl) (fun _ _ _ h => h) (Or.inl ⟨by rfl, ?_⟩) hHeld ?_
      rotate_left 1
      · (intro w hSw; (try dsimp only at hSw); go_simp; try with_reducible rfl)
      try simp only [Act.put, List.getElem_toArray, List.getElem_cons_zero, List.getElem_cons_succ, List.setIfInBounds_toArray, List.set_cons_zero, List.set_cons_succ]
      refine wpAnyH_take (i := 7) (v := ?_) rfl (by kernel_rfl) (by kernel_rfl) (by kernel_rfl) (fun _ _ _ h => h) (Or.inl ⟨by rfl, ?_⟩) hHeld ?_
      rotate_left 1
      · (intro w hSw; (try dsimp only at hSw); go_simp; try with_reducible rfl)
      try simp only [Act.put, List.getElem_toArray, List.getElem_cons_zero, List.getElem_cons_succ, List.setIfInBounds_toArray, List.set_cons_zero, List.set_cons_succ]
      refine wpAnyH_take (i := 8) (v := ?_) rfl (by kernel_rfl) (by kernel_rfl) (by kernel_rfl) (fun _ _ _ h => h) (Or.inl ⟨by rfl, ?_⟩) hHeld ?_
      rotate_left 1
      · (intro w hSw; (try dsimp only at hSw); go_simp; try with_reducible rfl)
      try simp only [Act.put, List.getElem_toArray, List.getElem_cons_zero, List.getElem_cons_succ, List.setIfInBounds_toArray, List.set_cons_zero, List.set_cons_succ]
      refine wpAnyH_take (i := 9) (v := ?_) rfl (by kernel_rfl) (by kernel_rfl) (by kernel_rfl) (fun _ _ _ h => h) (Or.inl ⟨by rfl, ?_⟩) hHeld ?_
      rotate_left 1
      · (intro w hSw; (try dsimp only at hSw); go_simp; try with_reducible rfl)
      try simp only [Act.put, List.getElem_toArray, List.getElem_cons_zero, List.getElem_cons_succ, List.setIfInBounds_toArray, List.set_cons_zero, List.set_cons_succ]
      refine wpAnyH_ready (rs := [10]) (by kernel_rfl) (by simp) (AllReadyH.cons rfl (fun K hK => ?_) AllReadyH.nil)
      clear hHeld
      have hrb7 := HRwc.out.G (G.refl wc).drew
      have HTH : Hid (wc.drew.there rb 0 8) := fun j hj => ⟨by rw [hrb7.cell, List.getElem?_eq_getElem (by simp; omega)]; rfl, hrb7.frozen _⟩
      have HB7 := hide ((((((((hrb7.set 0 (I r.id)).set 1 (I r.kind)).set 2 (.string r.of)).set 3 (.string r.key)).set 4 (I r.is)).set 5 (.string r.fr)).set 6 (.string r.dst)).set 7 (I r.n))
      have HG7 : Hid (G W ((((((((wc.drew.setCell ⟨rb, 0, none⟩ (I r.id)).setCell ⟨rb, 1, none⟩ (I r.kind)).setCell ⟨rb, 2, none⟩ (.string r.of)).setCell ⟨rb, 3, none⟩ (.string r.key)).setCell ⟨rb, 4, none⟩ (I r.is)).setCell ⟨rb, 5, none⟩ (.string r.fr)).setCell ⟨rb, 6, none⟩ (.string r.dst)).setCell ⟨rb, 7, none⟩ (I r.n))) := (((((((((HGwc.out.drew).setCell HLO.out (I r.id)).setCell HLO.out (I r.kind)).setCell HLO.out (.string r.of)).setCell HLO.out (.string r.key)).setCell HLO.out (I r.is)).setCell HLO.out (.string r.fr)).setCell HLO.out (.string r.dst)).setCell HLO.out (I r.n))
      have HS7 : Hid ((∀ o, ((((((((wc.drew.setCell ⟨rb, 0, none⟩ (I r.id)).setCell ⟨rb, 1, none⟩ (I r.kind)).setCell ⟨rb, 2, none⟩ (.string r.of)).setCell ⟨rb, 3, none⟩ (.string r.key)).setCell ⟨rb, 4, none⟩ (I r.is)).setCell ⟨rb, 5, none⟩ (.string r.fr)).setCell ⟨rb, 6, none⟩ (.string r.dst)).setCell ⟨rb, 7, none⟩ (I r.n)).cell? ⟨B0, o, none⟩ = ([I id, .string lb, .slice pa pn pc] : List Value)[o]?) ∧ (∀ o, ((((((((wc.drew.setCell ⟨rb, 0, none⟩ (I r.id)).setCell ⟨rb, 1, none⟩ (I r.kind)).setCell ⟨rb, 2, none⟩ (.string r.of)).setCell ⟨rb, 3, none⟩ (.string r.key)).setCell ⟨rb, 4, none⟩ (I r.is)).setCell ⟨rb, 5, none⟩ (.string r.fr)).setCell ⟨rb, 6, none⟩ (.string r.dst)).setCell ⟨rb, 7, none⟩ (I r.n)).cell? ⟨r8, o, none⟩ = ([I r.id, I r.kind, .string r.of, .string r.key, I r.is, .string r.fr, .string r.dst, I r.n] : List Value)[o]?)) := ⟨((((((((((((((((HNwc.out.G (G.refl wc).drew).off (b := rb) (o := 0) (v := I r.id) HNE.out.2.2.2)).off (b := rb) (o := 1) (v := I r.kind) HNE.out.2.2.2)).off (b := rb) (o := 2) (v := .string r.of) HNE.out.2.2.2)).off (b := rb) (o := 3) (v := .string r.key) HNE.out.2.2.2)).off (b := rb) (o := 4) (v := I r.is) HNE.out.2.2.2)).off (b := rb) (o := 5) (v := .string r.fr) HNE.out.2.2.2)).off (b := rb) (o := 6) (v := .string r.dst) HNE.out.2.2.2)).off (b := rb) (o := 7) (v := I r.n) HNE.out.2.2.2).cell, ((((((((((((((((H8wc.out.G (G.refl wc).drew).off (b := rb) (o := 0) (v := I r.id) HNE.out.2.1.symm)).off (b := rb) (o := 1) (v := I r.kind) HNE.out.2.1.symm)).off (b := rb) (o := 2) (v := .string r.of) HNE.out.2.1.symm)).off (b := rb) (o := 3) (v := .string r.key) HNE.out.2.1.symm)).off (b := rb) (o := 4) (v := I r.is) HNE.out.2.1.symm)).off (b := rb) (o := 5) (v := .string r.fr) HNE.out.2.1.symm)).off (b := rb) (o := 6) (v := .string r.dst) HNE.out.2.1.symm)).off (b := rb) (o := 7) (v := I r.n) HNE.out.2.1.symm).cell⟩
      clear hrb7
      refine (if_pos rfl).mpr ?_
      refine wp_store_mid 66 _ _ rfl rb 0 #[I r.id, I r.kind, .string r.of, .string r.key, I r.is, .string r.fr, .string r.dst, I r.n] rfl rfl HTH.out (by kernel_rfl) (all_oneCell_toArray (cs := [I r.id, I r.kind, .string r.of, .string r.key, I r.is, .string r.fr, .string r.dst, I r.n]) (fun v hv => one8 (by rfl) hv)) ?_
      refine hK.out _ _ (⟨HS7.out.1, HS7.out.2, HG7.out⟩) (fun hHeld => ?_)
      clear hK K
      try simp only [Act.put, List.getElem_toArray, List.getElem_cons_zero, List.getElem_cons_succ]
      refine wpAnyH_take (i := 11) (v := ?_) rfl (by kernel_rfl) (by kernel_rfl) (by kernel_rfl) (fun _ _ _ h => h) (Or.inl ⟨by rfl, ?_⟩) hHeld ?_
      rotate_left 1
      · (intro w hSw; (try dsimp only at hSw); go_simp; try with_reducible rfl)
      try simp only [Act.put, List.getElem_toArray, List.getElem_cons_zero, List.getElem_cons_succ, List.setIfInBounds_toArray, List.set_cons_zero, List.set_cons_succ]
      refine wpAnyH_done (by kernel_rfl) ?_ _
      refine NoPanic.normal ?_
      go_wp2_with fail
      exact bodyPost_ret_by (v := .tuple #[.agg #[I r.id, I r.kind, .string r.of, .string r.key, I r.is, .string r.fr, .string r.dst, I r.n], .bool _]) (retY _ _ rb _ _ rfl rfl HB7.out rfl) rfl ⟨by first | rfl | rw [HMB.out], HG7.out⟩
    | false =>
      go_wp2_with fail
      refine wp_region_noPanic ?_
      refine wp_region_held_drew (S := (fun V => (∀ o, V.cell? ⟨B0, o, none⟩ = ([I id, .string lb, .slice pa pn pc] : List Value)[o]?) ∧ (∀ o, V.cell? ⟨r8, o, none⟩ = ([I r.id, I r.kind, .string r.of, .string r.key, I r.is, .string r.fr, .string r.dst, I r.n] : List Value)[o]?) ∧ G W V)) (by kernel_rfl) (⟨(HNwc.out.G (G.refl _).drew).cell, (H8wc.out.G (G.refl _).drew).cell, HGwc.out.drew⟩) (fun hHeld => ?_)
      refine wpAnyH_take (i := 0) (v := ?_) rfl (by kernel_rfl) (by kernel_rfl) (by kernel_rfl) (fun _ _ _ h => h) (Or.inl ⟨by rfl, ?_⟩) hHeld ?_
      rotate_left 1
      · (intro w hSw; obtain ⟨k1, k2, -⟩ := hSw; go_simp; try with_reducible rfl)
      try simp only [Act.put, List.getElem_toArray, List.getElem_cons_zero, List.setIfInBounds_toArray, List.set_cons_zero, List.set_cons_succ]
      refine wpAnyH_take (i := 1) (v := ?_) rfl (by kernel_rfl) (by kernel_rfl) (by kernel_rfl) (fun _ _ _ h => h) (Or.inl ⟨by rfl, ?_⟩) hHeld ?_
      rotate_left 1
      · (intro w hSw; (try dsimp only at hSw); go_simp; try with_reducible rfl)
      try simp only [Act.put, List.getElem_toArray, List.getElem_cons_zero, List.getElem_cons_succ, List.setIfInBounds_toArray, List.set_cons_zero, List.set_cons_succ]
      refine wpAnyH_take (i := 2) (v := ?_) rfl (by kernel_rfl) (by kernel_rfl) (by kernel_rfl) (fun _ _ _ h => h) (Or.inl ⟨by rfl, ?_⟩) hHeld ?_
      rotate_left 1
      · (intro w hSw; (try dsimp only at hSw); go_simp; try with_reducible rfl)
      try simp only [Act.put, List.getElem_toArray, List.getElem_cons_zero, List.getElem_cons_succ, List.setIfInBounds_toArray, List.set_cons_zero, List.set_cons_succ]
      refine wpAnyH_take (i := 3) (v := undef) rfl (by kernel_rfl) (by kernel_rfl) (by kernel_rfl) (fun _ _ _ h => h) (Or.inr ⟨by rfl, rfl⟩) hHeld ?_
      try simp only [Act.put, List.getElem_toArray, List.getElem_cons_zero, List.getElem_cons_succ, List.setIfInBounds_toArray, List.set_cons_zero, List.set_cons_succ]
      refine wpAnyH_take (i := 4) (v := undef) rfl (by kernel_rfl) (by kernel_rfl) (by kernel_rfl) (fun _ _ _ h => h) (Or.inr ⟨by rfl, rfl⟩) hHeld ?_
      try simp only [Act.put, List.getElem_toArray, List.getElem_cons_zero, List.getElem_cons_succ, List.setIfInBounds_toArray, List.set_cons_zero, List.set_cons_succ]
      refine wpAnyH_take (i := 5) (v := undef) rfl (by kernel_rfl) (by kernel_rfl) (by kernel_rfl) (fun _ _ _ h => h) (Or.inr ⟨by rfl, rfl⟩) hHeld ?_
      try simp only [Act.put, List.getElem_toArray, List.getElem_cons_zero, List.getElem_cons_succ, List.setIfInBounds_toArray, List.set_cons_zero, List.set_cons_succ]
      refine wpAnyH_take (i := 6) (v := undef) rfl (by kernel_rfl) (by kernel_rfl) (by kernel_rfl) (fun _ _ _ h => h) (Or.inr ⟨by rfl, rfl⟩) hHeld ?_
      try simp only [Act.put, List.getElem_toArray, List.getElem_cons_zero, List.getElem_cons_succ, List.setIfInBounds_toArray, List.set_cons_zero, List.set_cons_succ]
      refine wpAnyH_take (i := 7) (v := undef) rfl (by kernel_rfl) (by kernel_rfl) (by kernel_rfl) (fun _ _ _ h => h) (Or.inr ⟨by rfl, rfl⟩) hHeld ?_
      try simp only [Act.put, List.getElem_toArray, List.getElem_cons_zero, List.getElem_cons_succ, List.setIfInBounds_toArray, List.set_cons_zero, List.set_cons_succ]
      refine wpAnyH_take (i := 8) (v := undef) rfl (by kernel_rfl) (by kernel_rfl) (by kernel_rfl) (fun _ _ _ h => h) (Or.inr ⟨by rfl, rfl⟩) hHeld ?_
      try simp only [Act.put, List.getElem_toArray, List.getElem_cons_zero, List.getElem_cons_succ, List.setIfInBounds_toArray, List.set_cons_zero, List.set_cons_succ]
      refine wpAnyH_take (i := 9) (v := ?_) rfl (by kernel_rfl) (by kernel_rfl) (by kernel_rfl) (fun _ _ _ h => h) (Or.inl ⟨by rfl, ?_⟩) hHeld ?_
      rotate_left 1
      · (intro w hSw; (try dsimp only at hSw); go_simp; try with_reducible rfl)
      try simp only [Act.put, List.getElem_toArray, List.getElem_cons_zero, List.getElem_cons_succ, List.setIfInBounds_toArray, List.set_cons_zero, List.set_cons_succ]
      refine wpAnyH_ready (rs := [10]) (by kernel_rfl) (by simp) (AllReadyH.cons rfl (fun K hK => ?_) AllReadyH.nil)
      clear hHeld
      have hrb7 := HRwc.out.G (G.refl wc).drew
      have HTH : Hid (wc.drew.there rb 0 8) := fun j hj => ⟨by rw [hrb7.cell, List.getElem?_eq_getElem (by simp; omega)]; rfl, hrb7.frozen _⟩
      have HB7 := hide ((((((((hrb7.set 0 (I r.id)).set 1 (I r.kind)).set 2 (.string r.of)).set 3 (.string r.key)).set 4 (I r.is)).set 5 (.string r.fr)).set 6 (.string r.dst)).set 7 (I r.n))
      have HG7 : Hid (G W ((((((((wc.drew.setCell ⟨rb, 0, none⟩ (I r.id)).setCell ⟨rb, 1, none⟩ (I r.kind)).setCell ⟨rb, 2, none⟩ (.string r.of)).setCell ⟨rb, 3, none⟩ (.string r.key)).setCell ⟨rb, 4, none⟩ (I r.is)).setCell ⟨rb, 5, none⟩ (.string r.fr)).setCell ⟨rb, 6, none⟩ (.string r.dst)).setCell ⟨rb, 7, none⟩ (I r.n))) := (((((((((HGwc.out.drew).setCell HLO.out (I r.id)).setCell HLO.out (I r.kind)).setCell HLO.out (.string r.of)).setCell HLO.out (.string r.key)).setCell HLO.out (I r.is)).setCell HLO.out (.string r.fr)).setCell HLO.out (.string r.dst)).setCell HLO.out (I r.n))
      have HS7 : Hid ((∀ o, ((((((((wc.drew.setCell ⟨rb, 0, none⟩ (I r.id)).setCell ⟨rb, 1, none⟩ (I r.kind)).setCell ⟨rb, 2, none⟩ (.string r.of)).setCell ⟨rb, 3, none⟩ (.string r.key)).setCell ⟨rb, 4, none⟩ (I r.is)).setCell ⟨rb, 5, none⟩ (.string r.fr)).setCell ⟨rb, 6, none⟩ (.string r.dst)).setCell ⟨rb, 7, none⟩ (I r.n)).cell? ⟨B0, o, none⟩ = ([I id, .string lb, .slice pa pn pc] : List Value)[o]?) ∧ (∀ o, ((((((((wc.drew.setCell ⟨rb, 0, none⟩ (I r.id)).setCell ⟨rb, 1, none⟩ (I r.kind)).setCell ⟨rb, 2, none⟩ (.string r.of)).setCell ⟨rb, 3, none⟩ (.string r.key)).setCell ⟨rb, 4, none⟩ (I r.is)).setCell ⟨rb, 5, none⟩ (.string r.fr)).setCell ⟨rb, 6, none⟩ (.string r.dst)).setCell ⟨rb, 7, none⟩ (I r.n)).cell? ⟨r8, o, none⟩ = ([I r.id, I r.kind, .string r.of, .string r.key, I r.is, .string r.fr, .string r.dst, I r.n] : List Value)[o]?)) := ⟨((((((((((((((((HNwc.out.G (G.refl wc).drew).off (b := rb) (o := 0) (v := I r.id) HNE.out.2.2.2)).off (b := rb) (o := 1) (v := I r.kind) HNE.out.2.2.2)).off (b := rb) (o := 2) (v := .string r.of) HNE.out.2.2.2)).off (b := rb) (o := 3) (v := .string r.key) HNE.out.2.2.2)).off (b := rb) (o := 4) (v := I r.is) HNE.out.2.2.2)).off (b := rb) (o := 5) (v := .string r.fr) HNE.out.2.2.2)).off (b := rb) (o := 6) (v := .string r.dst) HNE.out.2.2.2)).off (b := rb) (o := 7) (v := I r.n) HNE.out.2.2.2).cell, ((((((((((((((((H8wc.out.G (G.refl wc).drew).off (b := rb) (o := 0) (v := I r.id) HNE.out.2.1.symm)).off (b := rb) (o := 1) (v := I r.kind) HNE.out.2.1.symm)).off (b := rb) (o := 2) (v := .string r.of) HNE.out.2.1.symm)).off (b := rb) (o := 3) (v := .string r.key) HNE.out.2.1.symm)).off (b := rb) (o := 4) (v := I r.is) HNE.out.2.1.symm)).off (b := rb) (o := 5) (v := .string r.fr) HNE.out.2.1.symm)).off (b := rb) (o := 6) (v := .string r.dst) HNE.out.2.1.symm)).off (b := rb) (o := 7) (v := I r.n) HNE.out.2.1.symm).cell⟩
      clear hrb7
      refine (if_pos rfl).mpr ?_
      refine wp_store_mid 66 _ _ rfl rb 0 #[I r.id, I r.kind, .string r.of, .string r.key, I r.is, .string r.fr, .string r.dst, I r.n] rfl rfl HTH.out (by kernel_rfl) (all_oneCell_toArray (cs := [I r.id, I r.kind, .string r.of, .string r.key, I r.is, .string r.fr, .string r.dst, I r.n]) (fun v hv => one8 (by rfl) hv)) ?_
      refine hK.out _ _ (⟨HS7.out.1, HS7.out.2, HG7.out⟩) (fun hHeld => ?_)
      clear hK K
      try simp only [Act.put, List.getElem_toArray, List.getElem_cons_zero, List.getElem_cons_succ]
      refine wpAnyH_take (i := 11) (v := ?_) rfl (by kernel_rfl) (by kernel_rfl) (by kernel_rfl) (fun _ _ _ h => h) (Or.inl ⟨by rfl, ?_⟩) hHeld ?_
      rotate_left 1
      · (intro w hSw; (try dsimp only at hSw); go_simp; try with_reducible rfl)
      try simp only [Act.put, List.getElem_toArray, List.getElem_cons_zero, List.getElem_cons_succ, List.setIfInBounds_toArray, List.set_cons_zero, List.set_cons_succ]
      refine wpAnyH_done (by kernel_rfl) ?_ _
      refine NoPanic.normal ?_
      go_wp2_with fail
      exact bodyPost_ret_by (v := .tuple #[.agg #[I r.id, I r.kind, .string r.of, .string r.key, I r.is, .string r.fr, .string r.dst, I r.n], .bool false]) (retY _ _ rb _ _ rfl rfl HB7.out rfl) rfl ⟨by first | rfl | rw [HMB.out], HG7.out⟩
end Go.Proofs.YtifioikdhfhljaaGreatDoor
