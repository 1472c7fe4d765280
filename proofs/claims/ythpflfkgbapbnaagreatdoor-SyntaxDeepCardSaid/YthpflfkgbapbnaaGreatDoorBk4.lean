/- The literal of a string: what its loop stands on. -/
import Derived.Test.YthpflfkgbapbnaaGreatDoorBk3
import Derived.Test.YthpflfkgbapbnaaGreatDoorShB8
import Derived.Test.YthpflfkgbapbnaaGreatDoorShB10
import Derived.Shelf.Strings.BuilderK
import Derived.Lib.OthersKept
import Derived.Lib.MapLaws
import Derived.Lib.TrimU
import Derived.Stop.FmtQuoteTie
namespace Go.Proofs.YthpflfkgbapbnaaGreatDoor
open Go.RowKit Go.Lib Go.Shelf

theorem xWS : Builder.Extra Tryz.prog Tryz.laysWriteString_ren := ⟨⟨by kernel_rfl, by kernel_rfl⟩, Tryz.underlying5, Tryz.isAgg5, Tryz.sizeOf5, Tryz.zeroValue5, by kernel_rfl, by kernel_rfl, by kernel_rfl, by decide⟩
theorem xWB : Builder.Extra Tryz.prog Tryz.laysWriteByte_ren := ⟨⟨by kernel_rfl, by kernel_rfl⟩, Tryz.underlying5, Tryz.isAgg5, Tryz.sizeOf5, Tryz.zeroValue5, by kernel_rfl, by kernel_rfl, by kernel_rfl, by decide⟩
theorem xBS : Builder.Extra Tryz.prog Tryz.laysBuilderString_ren := ⟨⟨by kernel_rfl, by kernel_rfl⟩, Tryz.underlying5, Tryz.isAgg5, Tryz.sizeOf5, Tryz.zeroValue5, by kernel_rfl, by kernel_rfl, by kernel_rfl, by decide⟩
/-- A builder is kept where its two blocks are. -/
theorem bld_keep {T e B b : Nat} {p : Value} {bs : List Value} {w w' : World} (h : BuilderAtF T e B b p bs w) (hk : ∀ (g : Nat) (c : Array Value) (x : TypeId) (fz : Nat × Nat), w.heap[g]? = some (Obj.cells c x fz) → w'.heap[g]? = some (Obj.cells c x fz)) : BuilderAtF T e B b p bs w' := by
  obtain ⟨hB, v, hb, hown, hne⟩ := h
  refine ⟨hB, v, hk _ _ _ _ hb, ⟨hown.1, ?_⟩, hne⟩
  rcases hown.2 with h | ⟨g, cap, cur, fz, rfl, h1, h2, h3⟩
  · exact .inl h
  · exact .inr ⟨g, cap, cur, fz, rfl, h1, hk _ _ _ _ h2, h3⟩
theorem bld_G {T e B b : Nat} {p : Value} {bs : List Value} {w w' : World} (h : BuilderAtF T e B b p bs w) (g : G w w') : BuilderAtF T e B b p bs w' :=
  bld_keep h fun k c x fz hk => by rw [g.block k (Array.getElem?_eq_some_iff.1 hk).1]; exact hk
theorem bld_iter {T e B b k : Nat} {p : Value} {bs : List Value} {w : World} {s : ByteArray} {pos : Nat} (h : BuilderAtF T e B b p bs w) (hk : w.heap[k]? = some (.stringIter s pos)) (pos' : Nat) : BuilderAtF T e B b p bs (w.iterAt k s pos') :=
  bld_keep h fun g c x fz hg => by
    rw [iterAt_other _ _ _ _ _ (fun e => by subst e; rw [hk] at hg; cases hg)]; exact hg
theorem G_iter {w W : World} (g : G w W) {k : Nat} (hk : w.heap.size ≤ k) (s : ByteArray) (pos : Nat) : G w (W.iterAt k s pos) :=
  ⟨g.os, g.tape, g.output, by simp [World.iterAt]; exact g.size, fun j hj => by rw [iterAt_other _ _ _ _ _ (by omega)]; exact g.block j hj⟩
theorem escS_len : ∀ l : List UInt8, (escS l).length ≤ 4 * l.length
  | [] => by simp [escS]
  | c :: l => by
    have e : escS (c :: l) = esc1 c ++ escS l := by simp [escS]
    have h := escS_len l
    rw [e, List.length_append, List.length_cons]
    have : (esc1 c).length ≤ 4 := by
      rcases esc_cases c with ⟨_, e⟩ | ⟨_, e⟩ | ⟨_, e⟩ | ⟨_, e⟩ | ⟨_, e⟩ | e | ⟨_, e⟩ <;> rw [e] <;> simp
    omega
theorem escS_app (l l' : List UInt8) : escS (l ++ l') = escS l ++ escS l' := by simp [escS]
/-- Under way in a string's literal: l is written, the iterator stands at pos. -/
structure SL (w : World) (s : ByteArray) (l : List UInt8) (k pos : Nat) (W : World) : Prop where
  b : BuilderAtF 192 5 w.heap.size w.heap.size (.pointer (some ⟨w.heap.size, 0, none⟩)) (byteCells l) W
  k : W.heap[k]? = some (.stringIter s pos)
  g : G w W
theorem enc_list (n : Nat) : (Utf8.encode (n : Int)).data.toList = encodeRune (n : Int) := by
  have h := Go.Extern.FmtText.encode_eq n
  unfold encodeRune
  rw [← h]
  have e : ∀ l : List UInt8, (l.map fun x => ((x.toNat : Int))).map (fun x => x.toNat.toUInt8) = l := by
    intro l
    induction l with
    | nil => rfl
    | cons c l ih => simp [ih]
  exact (e _).symm
theorem esc_high {c : UInt8} (h : 128 ≤ c.toNat) : esc1 c = [c] := by
  have ne : ∀ d : UInt8, d.toNat < 128 → c ≠ d := fun d hd e => by subst e; omega
  unfold esc1
  rw [if_neg (ne 92 (by decide)), if_neg (ne 39 (by decide)), if_neg (ne 10 (by decide)), if_neg (ne 9 (by decide)), if_neg (ne 13 (by decide)), if_neg (by
    rintro (h' | h')
    · omega
    · exact ne 127 (by decide) h')]
theorem escS_high : ∀ l : List UInt8, (∀ c ∈ l, 128 ≤ c.toNat) → escS l = l
  | [], _ => rfl
  | c :: l, h => by
    have e : escS (c :: l) = esc1 c ++ escS l := by simp [escS]
    rw [e, esc_high (h c (by simp)), escS_high l (fun d hd => h d (by simp [hd]))]; rfl
theorem byte_high (x : Int) (h1 : 128 ≤ x) (h2 : x ≤ 255) : 128 ≤ (x.toNat.toUInt8).toNat := by
  show 128 ≤ (UInt8.ofNat x.toNat).toNat
  rw [UInt8.toNat_ofNat']; omega
theorem enc_high (r : Int) (h : 128 ≤ r) (h1 : r ≤ 1114111) : ∀ c ∈ encodeRune r, 128 ≤ c.toNat := by
  intro c hc
  unfold encodeRune at hc
  obtain ⟨x, hx, rfl⟩ := List.mem_map.1 hc
  have : 128 ≤ x ∧ x ≤ 255 := by
    unfold encodeRuneZ at hx
    rw [if_neg (by omega)] at hx
    by_cases c2 : 128 ≤ r ∧ r ≤ 2047
    · rw [if_pos c2] at hx
      simp only [List.mem_cons, List.not_mem_nil, or_false] at hx
      omega
    · rw [if_neg c2] at hx
      by_cases c3 : (2048 ≤ r ∧ r < 55296) ∨ (57343 < r ∧ r ≤ 65535)
      · rw [if_pos c3] at hx
        simp only [List.mem_cons, List.not_mem_nil, or_false] at hx
        omega
      · rw [if_neg c3] at hx
        by_cases c4 : 65536 ≤ r ∧ r ≤ 1114111
        · rw [if_pos c4] at hx
          simp only [List.mem_cons, List.not_mem_nil, or_false] at hx
          omega
        · rw [if_neg c4] at hx
          simp only [List.mem_cons, List.not_mem_nil, or_false] at hx
          omega
  exact byte_high x this.1 this.2
/-- What one code point of a well-formed text adds to the literal. -/
theorem rune_step (s : ByteArray) (pos : Nat) (hp : pos < s.size) (hv : validD (s.data.toList.drop pos) = true) :
    let r := (Utf8.decode s pos).1; let n := (Utf8.decode s pos).2
    1 ≤ n ∧ pos + n ≤ s.size ∧ r ≤ 1114111 ∧ validD (s.data.toList.drop (pos + n)) = true ∧ (if (r : Int) < 128 then strU (esc1 (UInt8.ofNat (r : Int).toNat)) else Utf8.encode (r : Int)).data.toList = escS ((s.data.toList.drop pos).take n) := by
  intro r n
  have hne := drop_ne s pos hp
  have hdd := dec_drop s pos
  have hP := pt_dec s pos hp
  have hv' := validD_step (s.data.toList.drop pos) hne
  rw [hdd] at hv'
  rcases hP with ⟨_, h2⟩ | ⟨_, h2, h3, h4⟩
  · rw [if_pos (by rw [h2]; exact ⟨rfl, rfl⟩)] at hv'
    rw [hv] at hv'; cases hv'
  rw [if_neg h4, List.drop_drop] at hv'
  have hed := encode_decode (s.data.toList.drop pos) hne (by rw [hdd]; exact h4)
  rw [hdd] at hed
  refine ⟨h2, by omega, rune_le s pos, by rw [← hv']; exact hv, ?_⟩
  · by_cases hr : (r : Int) < 128
    · rw [if_pos hr, strU_list]
      have h1 : encodeRune (r : Int) = [UInt8.ofNat r] := by
        unfold encodeRune
        rw [encodeRuneZ_one (by omega) (by omega)]
        rfl
      rw [← hed, h1]
      simp [escS]
    · rw [if_neg hr, enc_list, hed]
      refine (escS_high _ fun c hc => ?_).symm
      rw [← hed] at hc
      exact enc_high _ (by omega) (by have := rune_le s pos; omega) c hc
set_option maxRecDepth 100000 in
set_option maxHeartbeats 4000000 in
theorem lit_str (s : ByteArray) (hv : validD s.data.toList = true) (hs : s.size ≤ 32) : ILit (.iface 206 (.string s)) (39 :: escS s.data.toList ++ [39]) := by
  refine ⟨_, 204, _, rfl, fun w => by kernel_rfl, fun w => by simp [go_sem], fun w hE => ?_⟩
  have HE : Hid _ := hE
  clear hE
  go_enter Tryz.func204, Tryz.ntmps204
  have hb0 : BuilderAtF 192 5 w.heap.size w.heap.size (.pointer none) [] (w.alloc (.cells #[.pointer none, .slice none 0 0] 192)) := ⟨Nat.le_refl _, .slice none 0 0, by show (w.heap.push _)[w.heap.size]? = _; simp, ⟨rfl, .inl ⟨rfl, rfl⟩⟩, by simp [Value.ownBlock]⟩
  have HW : Hid (Calls Tryz.prog 145 #[.pointer (some ⟨w.heap.size, 0, none⟩), .int .u8 39] (w.alloc (.cells #[.pointer none, .slice none 0 0] 192)) fun e w' => e = .returned .nilIface ∧ (BuilderAtF 192 5 w.heap.size w.heap.size (.pointer (some ⟨w.heap.size, 0, none⟩)) (byteCells [39]) w' ∧ Below w.heap.size (w.alloc (.cells #[.pointer none, .slice none 0 0] 192)) w' ∧ OthersKept 5 (some w.heap.size) (w.alloc (.cells #[.pointer none, .slice none 0 0] 192)) w')) := Any.Builder_WriteByte_k Tryz.laysWriteByte xWB w.heap.size w.heap.size [] 39 _ (.inl hb0) (by simp) (by simp)
  clear hb0
  go_wp2_with fail
  refine HW.out.mono ?_
  rintro e w1 ⟨rfl, hb1, hbe, _⟩
  have hg1 : G w w1 := Below.trans (G.alloc (G.refl w) _) hbe
  have hS : SL w s [39] w1.heap.size 0 (w1.iter s 0) := ⟨hb1.alloc _, World.iter_heap w1 s 0, hg1.alloc _⟩
  have hsz := hg1.size
  have hbl := hb1.lt
  clear hb1 hbe hg1 HW
  have HS : Hid _ := hS
  have HV : Hid _ := hv
  clear hS hv
  go_wp2_with fail
  go_loopw [] (fun W => ∃ pos, pos ≤ s.size ∧ validD (s.data.toList.drop pos) = true ∧ SL w s (39 :: escS (s.data.toList.take pos)) w1.heap.size pos W) (fun W => s.size - W.iterPos w1.heap.size)
  case atStart => exact ⟨0, Nat.zero_le _, by rw [List.drop_zero]; exact HV.out, HS.out⟩
  case round =>
    obtain ⟨pos, hpos, hvp, hSL⟩ := hrel
    by_cases hp : pos < s.size
    · have hnx := fun ty => run_next_any_at (P := Tryz.prog) wr w1.heap.size s pos ty hSL.k hp
      have hip : wr.iterPos w1.heap.size = pos := iterPos_of hSL.k
      have HIP : Hid _ := hip
      clear hip
      have HSL : Hid _ := hSL
      have HR : Hid _ := rune_step s pos hp hvp
      clear hSL
      have HS1 : Hid (SL w s (39 :: escS (s.data.toList.take pos)) w1.heap.size (pos + (Utf8.decode s pos).2) (wr.iterAt w1.heap.size s (pos + (Utf8.decode s pos).2))) := ⟨bld_iter HSL.out.b HSL.out.k _, iterAt_heap _ _ _ _ _ HSL.out.k, G_iter HSL.out.g hsz _ _⟩
      clear HSL
      generalize wr.iterAt w1.heap.size s (pos + (Utf8.decode s pos).2) = w2 at HS1 hnx
      go_wp2_with fail
      obtain ⟨q1, q2, q3, q4, q5⟩ := HR.out
      refine (escaped_any ((Utf8.decode s pos).1 : Int) (by omega) (by omega) w2 (HE.out.G HS1.out.g)).mono ?_
      rintro e w3 ⟨rfl, g3⟩
      generalize hx : (if ((Utf8.decode s pos).1 : Int) < 128 then strU (esc1 (UInt8.ofNat ((Utf8.decode s pos).1 : Int).toNat)) else Utf8.encode ((Utf8.decode s pos).1 : Int)) = x at q5 ⊢
      have hkl : w1.heap.size < w2.heap.size := (Array.getElem?_eq_some_iff.1 HS1.out.k).1
      have HS3 : Hid (SL w s (39 :: escS (s.data.toList.take pos)) w1.heap.size (pos + (Utf8.decode s pos).2) w3) := ⟨bld_G HS1.out.b g3, by rw [g3.block _ hkl]; exact HS1.out.k, HS1.out.g.trans g3⟩
      have HQ5 : Hid _ := q5
      clear hx q5 g3 HS1 HR
      have hxl : x.data.toList.length = x.size := by rw [Array.length_toList]; rfl
      have hx4 : x.size ≤ 128 := by
        rw [← hxl, HQ5.out]
        have := escS_len ((s.data.toList.drop pos).take (Utf8.decode s pos).2)
        have h2 : ((s.data.toList.drop pos).take (Utf8.decode s pos).2).length ≤ 32 := by
          rw [List.length_take, List.length_drop, Array.length_toList]
          have : s.data.size = s.size := rfl
          omega
        omega
      have hl4 : (byteCells (39 :: escS (s.data.toList.take pos))).length ≤ 129 := by
        rw [byteCells_length, List.length_cons]
        have := escS_len (s.data.toList.take pos)
        have h2 : (s.data.toList.take pos).length ≤ 32 := by
          rw [List.length_take]; omega
        omega
      have HEQ : Hid (byteCells (39 :: escS (s.data.toList.take pos)) ++ strCells x = byteCells (39 :: escS (s.data.toList.take (pos + (Utf8.decode s pos).2)))) := by
        unfold Hid
        rw [List.take_add, escS_app, ← HQ5.out]
        simp [byteCells, strCells]
      have HWS : Hid (Calls Tryz.prog 208 #[.pointer (some ⟨w.heap.size, 0, none⟩), .string x] w3 fun e w' => e = .returned (.tuple #[.int .i64 x.size, .nilIface]) ∧ (BuilderAtF 192 5 w.heap.size w.heap.size (.pointer (some ⟨w.heap.size, 0, none⟩)) (byteCells (39 :: escS (s.data.toList.take pos)) ++ strCells x) w' ∧ Below w.heap.size w3 w' ∧ OthersKept 5 (some w.heap.size) w3 w')) := Any.Builder_WriteString_k Tryz.laysWriteString xWS w.heap.size w.heap.size _ x w3 (.inr HS3.out.b) (by omega) HS3.out.g.size
      clear HQ5 hx4 hl4 hxl
      go_wp2_with fail
      refine HWS.out.mono ?_
      rintro e w4 ⟨rfl, hb4, hbe, hok⟩
      rw [HEQ.out] at hb4
      have HS4 : Hid (SL w s (39 :: escS (s.data.toList.take (pos + (Utf8.decode s pos).2))) w1.heap.size (pos + (Utf8.decode s pos).2) w4) := ⟨hb4, hok _ _ HS3.out.k (by simp; omega) (fun c fz h => by cases h), Below.trans HS3.out.g hbe⟩
      have HI4 : Hid (w4.iterPos w1.heap.size = pos + (Utf8.decode s pos).2) := iterPos_of HS4.out.k
      clear hb4 hbe hok HS3 HEQ HWS
      go_wp2
      go_roundw
      case rel => exact ⟨_, q2, q4, HS4.out⟩
      case measure => rw [HI4.out, HIP.out]; omega
    · have hnx := fun ty => run_next_end_at (P := Tryz.prog) wr w1.heap.size s pos ty hSL.k hp
      have HSL : Hid _ := hSL
      clear hSL
      have hpe : pos = s.size := by omega
      have htk : s.data.toList.take pos = s.data.toList := List.take_of_length_le (by rw [Array.length_toList, hpe]; exact Nat.le_refl _)
      rw [htk] at HSL
      have hl4 : (byteCells (39 :: escS s.data.toList)).length + 1 ≤ 140737488355328 := by
        rw [byteCells_length, List.length_cons]
        have := escS_len s.data.toList
        have h2 : s.data.toList.length ≤ 32 := by rw [Array.length_toList]; exact hs
        omega
      have HW2 : Hid (Calls Tryz.prog 145 #[.pointer (some ⟨w.heap.size, 0, none⟩), .int .u8 39] wr fun e w' => e = .returned .nilIface ∧ (BuilderAtF 192 5 w.heap.size w.heap.size (.pointer (some ⟨w.heap.size, 0, none⟩)) (byteCells (39 :: escS s.data.toList) ++ [.int .u8 39]) w' ∧ Below w.heap.size wr w' ∧ OthersKept 5 (some w.heap.size) wr w')) := Any.Builder_WriteByte_k Tryz.laysWriteByte xWB w.heap.size w.heap.size _ 39 wr (.inr HSL.out.b) hl4 HSL.out.g.size
      have HGr : Hid (G w wr) := HSL.out.g
      clear HSL htk hpe hl4
      go_wp2_with fail
      refine HW2.out.mono ?_
      rintro e w5 ⟨rfl, hb5, hbe5, _⟩
      have heq : byteCells (39 :: escS s.data.toList) ++ [.int .u8 39] = byteCells (39 :: escS s.data.toList ++ [39]) := by simp [byteCells]
      rw [heq] at hb5
      have HST : Hid (Calls Tryz.prog 146 #[.pointer (some ⟨w.heap.size, 0, none⟩)] w5 fun e w' => e = .returned (.string ⟨(39 :: escS s.data.toList ++ [39]).toArray⟩) ∧ (IsBuilderF 192 5 w.heap.size w.heap.size (byteCells (39 :: escS s.data.toList ++ [39])) w' ∧ Below w.heap.size w5 w' ∧ OthersKept 5 (some w.heap.size) w5 w')) := Any.Builder_String_k Tryz.laysBuilderString xBS w.heap.size w.heap.size _ w5 (.inr hb5) (by simp)
      have HG5 : Hid (G w w5) := Below.trans HGr.out hbe5
      clear hb5 hbe5 heq HW2 HGr
      go_wp2_with fail
      refine HST.out.mono ?_
      rintro e w6 ⟨rfl, _, hbe6, _⟩
      have HG6 : Hid (G w w6) := Below.trans HG5.out hbe6
      clear hbe6 HST HG5
      go_wp2
      go_ret
      exact ⟨rfl, HG6.out⟩
end Go.Proofs.YthpflfkgbapbnaaGreatDoor
