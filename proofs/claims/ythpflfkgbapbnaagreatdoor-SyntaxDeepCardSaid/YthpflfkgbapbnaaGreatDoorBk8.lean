/- value.unescaped. -/
import Derived.Test.YthpflfkgbapbnaaGreatDoorBk7
namespace Go.Proofs.YthpflfkgbapbnaaGreatDoor
open Go.RowKit Go.Lib Go.Shelf

theorem esc1_ne (c : UInt8) : esc1 c ≠ [] := by
  rcases esc_cases c with ⟨_, e⟩ | ⟨_, e⟩ | ⟨_, e⟩ | ⟨_, e⟩ | ⟨_, e⟩ | e | ⟨_, e⟩ <;> rw [e] <;> simp
theorem escS_nil {l : List UInt8} (h : escS l = []) : l = [] := by
  cases l with
  | nil => rfl
  | cons c l =>
    have e : escS (c :: l) = esc1 c ++ escS l := by simp [escS]
    rw [e] at h
    exact absurd (List.append_eq_nil_iff.1 h).1 (esc1_ne c)
theorem ext_drop (s : ByteArray) (n : Nat) : (s.extract n s.size).data.toList = s.data.toList.drop n := by
  rw [ByteArray.data_extract, Array.toList_extract, List.extract_eq_take_drop]
  refine List.take_of_length_le ?_
  rw [List.length_drop, Array.length_toList]
  exact Nat.le_refl _
/-- A builder of this call's own: fresh, or with these bytes. -/
def UB (w : World) (l : List UInt8) (W : World) : Prop := (l = [] ∧ BuilderAt 192 5 w.heap.size w.heap.size (.pointer none) [] W) ∨ (l ≠ [] ∧ BuilderAtF 192 5 w.heap.size w.heap.size (.pointer (some ⟨w.heap.size, 0, none⟩)) (byteCells l) W)
theorem UB.F {w W : World} {l : List UInt8} (h : UB w l W) : IsBuilderF 192 5 w.heap.size w.heap.size (byteCells l) W := by
  rcases h with ⟨rfl, h⟩ | ⟨_, h⟩
  · exact .inl (BuilderAtF.of h)
  · exact .inr h
theorem UB.G {w W W' : World} {l : List UInt8} (h : UB w l W) (g : G W W') : UB w l W' := by
  rcases h with ⟨rfl, hB, u, hb, hown, hne⟩ | ⟨h0, h⟩
  · refine .inl ⟨rfl, hB, u, by rw [g.block _ (Array.getElem?_eq_some_iff.1 hb).1]; exact hb, ?_, hne⟩
    refine ⟨hown.1, ?_⟩
    rcases hown.2 with h | ⟨q, cap, cur, h1, h2, h3, h4⟩
    · exact .inl h
    · exact .inr ⟨q, cap, cur, h1, h2, by rw [g.block _ (Array.getElem?_eq_some_iff.1 h3).1]; exact h3, h4⟩
  · exact .inr ⟨h0, bld_G h g⟩
set_option maxRecDepth 100000 in
set_option maxHeartbeats 4000000 in
theorem unesc_any (s : ByteArray) (hs : s.size ≤ 140737488351232) (w : World) (hE : Env w) : Calls Tryz.prog 129 #[.string s] w fun e w' => ∃ t : ByteArray, e = .returned (.string t) ∧ (∀ l0, s.data.toList = escS l0 → t.data.toList = l0) ∧ t.size ≤ s.size ∧ G w w' := by
  have HE : Hid _ := hE
  have HB0 : Hid (UB w [] (w.alloc (.cells #[.pointer none, .slice none 0 0] 192))) := .inl ⟨rfl, Nat.le_refl _, .slice none 0 0, by show (w.heap.push _)[w.heap.size]? = _; simp, World.ownsRow_nil _ _ _ _, by simp [Value.ownBlock]⟩
  clear hE
  go_enter Tryz.func129, Tryz.ntmps129
  go_wp2
  go_loopw [0] (fun t W => ∃ (s' : ByteArray) (l : List UInt8), t = .string s' ∧ l.length + s'.size ≤ s.size ∧ UB w l W ∧ G w W ∧ ∀ l0, s.data.toList = escS l0 → ∃ l1, l0 = l ++ l1 ∧ s'.data.toList = escS l1) (fun t _ => match t with | .string s' => s'.size | _ => 0)
  case atStart => exact ⟨s, [], rfl, by simp, HB0.out, (G.refl w).alloc _, fun l0 h => ⟨l0, rfl, h⟩⟩
  case round =>
    obtain ⟨s', l, rfl, hle, hU, hG, hL⟩ := hrel
    have HU : Hid (UB w l wr) := hU
    have HG : Hid (G w wr) := hG
    have HL : Hid _ := hL
    clear hU hG hL
    have hlen : s'.data.toList.length = s'.size := by rw [Array.length_toList]; rfl
    by_cases h0 : s'.size = 0
    · have hnil : s'.data.toList = [] := List.eq_nil_of_length_eq_zero (by omega)
      have hem : s'.toList.isEmpty = true := by rw [ByteArray.toList_eq, hnil]; rfl
      have HR : Hid (∀ l0, s.data.toList = escS l0 → l = l0) := fun l0 h => by
        obtain ⟨l1, h1, h2⟩ := HL.out l0 h
        rw [hnil] at h2
        rw [h1, escS_nil h2.symm, List.append_nil]
      have HST : Hid (Calls Tryz.prog 146 #[.pointer (some ⟨w.heap.size, 0, none⟩)] wr fun e w' => e = .returned (.string (strU l)) ∧ G w w') := by
        rcases HU.out with ⟨rfl, hb⟩ | ⟨hn, hb⟩
        · refine (Any.Builder_String_empty Tryz.laysBuilderString xBS w.heap.size w.heap.size wr (.inl hb) HG.out.size).mono ?_
          rintro e w' ⟨rfl, hbe⟩
          exact ⟨rfl, Below.trans HG.out hbe⟩
        · refine (Any.Builder_String_k Tryz.laysBuilderString xBS w.heap.size w.heap.size l wr (.inr hb) hn).mono ?_
          rintro e w' ⟨rfl, _, hbe, _⟩
          exact ⟨rfl, Below.trans HG.out hbe⟩
      clear hnil HU HL hlen
      go_wp2_with fail
      refine Calls.mono HST.out ?_
      rintro e w2 ⟨rfl, hg2⟩
      have HG2 : Hid _ := hg2
      clear hg2
      go_wp2
      go_ret
      exact ⟨strU l, rfl, fun l0 h => by rw [strU_list]; exact HR.out l0 h, by rw [strU_size]; omega, HG2.out⟩
    · have hem : s'.toList.isEmpty = false := by
        rw [ByteArray.toList_eq]
        cases h : s'.data.toList with
        | nil => rw [h] at hlen; simp at hlen; omega
        | cons c r => rfl
      have HFB : Hid (Calls Tryz.prog 144 #[.string s'] wr fun e w' => ∃ (c : UInt8) (n : Nat), e = .returned (.tuple #[.int .u8 c.toNat, .int .i64 n]) ∧ FB s'.data.toList c n ∧ G wr w') := fb_any s' (by omega) (by omega) wr (HE.out.G HG.out)
      go_wp2_with fail
      refine Calls.mono HFB.out ?_
      rintro e w2 ⟨c, n, rfl, hfb, hg2⟩
      have HG2 : Hid (G w w2) := G.trans HG.out hg2
      have HU2 : Hid (UB w l w2) := HU.out.G hg2
      have hn1 := hfb.1
      have hn2 : n ≤ s'.size := by have := hfb.2.1; omega
      have hnI : (n : Int) ≤ (s'.size : Int) := by omega
      have HF : Hid _ := hfb
      have hll : (byteCells l).length + 1 ≤ 140737488355328 := by rw [byteCells_length]; omega
      have HWB : Hid (Calls Tryz.prog 145 #[.pointer (some ⟨w.heap.size, 0, none⟩), .int .u8 c.toNat] w2 fun e w' => e = .returned .nilIface ∧ (UB w (l ++ [c]) w' ∧ G w w')) := by
        refine (Any.Builder_WriteByte_k Tryz.laysWriteByte xWB w.heap.size w.heap.size (byteCells l) c.toNat w2 HU2.out.F hll HG2.out.size).mono ?_
        rintro e w' ⟨rfl, hb, hbe, _⟩
        refine ⟨rfl, .inr ⟨by simp, ?_⟩, Below.trans HG2.out hbe⟩
        rw [show byteCells (l ++ [c]) = byteCells l ++ [.int .u8 c.toNat] by simp [byteCells]]
        exact hb
      clear hfb hg2 HG HU HFB hll
      go_wp2_with fail
      refine Calls.mono HWB.out ?_
      rintro e w3 ⟨rfl, hu3, hg3⟩
      have HU3 : Hid _ := hu3
      have HG3 : Hid _ := hg3
      clear hu3 hg3 HU2 HG2 HWB
      have hxs : (s'.extract n s'.size).size = s'.size - n := by rw [ByteArray.size_extract]; omega
      have HXL : Hid ((s'.extract n s'.size).data.toList = s'.data.toList.drop n) := ext_drop s' n
      have HNE : Hid (s'.data.toList ≠ []) := fun h => by rw [h] at hlen; simp at hlen; omega
      have HXS : Hid _ := hxs
      clear hxs hlen
      go_wp2
      exact ⟨⟨s'.extract n s'.size, l ++ [c], rfl, by rw [HXS.out, List.length_append, List.length_singleton]; omega, HU3.out, HG3.out, fun l0 h => by
        obtain ⟨l1, h1, h2⟩ := HL.out l0 h
        obtain ⟨l2, h3, h4⟩ := FB.step HF.out h2 HNE.out
        exact ⟨l2, by rw [h1, h3]; simp, by rw [HXL.out]; exact h4⟩⟩, by show (s'.extract n s'.size).size < s'.size; rw [HXS.out]; omega⟩
end Go.Proofs.YthpflfkgbapbnaaGreatDoor
