/- value.Decode. -/
import Derived.Test.YtdiikofgilplkaaDoorDec5
import Derived.Test.YtdiikofgilplkaaDoorShelf4
namespace Go.Proofs.YtdiikofgilplkaaDoor
open Go.RowKit Go.Shelf Go.PlainAid Go.Lib

theorem u8_beq (a b : Nat) (ha : a < 256) (hb : b < 256) : (UInt8.ofNat a == UInt8.ofNat b) = (a == b) := by
  by_cases h : a = b
  · subst h; simp
  · have h1 : (a == b) = false := beq_false_of_ne h
    rw [h1]
    refine beq_false_of_ne fun he => h ?_
    have := congrArg UInt8.toNat he
    simp at this
    omega
theorem pfx_map (ys bs : List Nat) (hy : ∀ d ∈ ys, d < 256) (hb : ∀ d ∈ bs, d < 256) :
    Lib.hasPrefix (bytesOf (bs.map fun d : Nat => (d : Int))) (bytesOf (ys.map fun d : Nat => (d : Int))) = ys.isPrefixOf bs := by
  unfold Lib.hasPrefix
  induction ys generalizing bs with
  | nil => simp [bytesOf]
  | cons y ys ih =>
    cases bs with
    | nil => simp [bytesOf]
    | cons b bs =>
      have h1 := ih bs (fun d hd => hy d (by simp [hd])) (fun d hd => hb d (by simp [hd]))
      have h2 := u8_beq y b (hy y (by simp)) (hb b (by simp))
      simp only [bytesOf, List.map_cons, List.isPrefixOf, Int.toNat_natCast] at h1 ⊢
      rw [h1, h2]
theorem row_in {w : World} {p : Option Addr} {n cap : Nat} {xs : List Nat} (h : RowB w (.slice p n cap) xs) : n = xs.length ∧ Lib.BytesIn w p n (xs.map fun d : Nat => (d : Int)) := by
  obtain ⟨p', cap', he, hcap, hc⟩ := h
  cases he
  refine ⟨rfl, fun hn => ?_⟩
  obtain ⟨d, hd⟩ : ∃ d, xs[0]? = some d := ⟨_, List.getElem?_eq_getElem hn⟩
  obtain ⟨g, o, rfl, _⟩ := hc 0 d hd
  refine ⟨g, o, rfl, fun i hi => ?_⟩
  obtain ⟨e, he⟩ : ∃ e, xs[i]? = some e := ⟨_, List.getElem?_eq_getElem hi⟩
  obtain ⟨g', o', h1, h2⟩ := hc i e he
  cases h1
  rw [h2, List.getD, List.getElem?_map, he]; rfl
theorem hp_any (x y : Value) (bs ys : List Nat) (w : World) (hx : RowB w x bs) (hy : RowB w y ys) (hb : ∀ d ∈ bs, d < 256) (hyb : ∀ d ∈ ys, d < 256) : Calls Tryd.prog 29 #[x, y] w fun e w' => e = .returned (.bool (ys.isPrefixOf bs)) ∧ w' = w := by
  obtain ⟨p, cap, rfl, hcap, hc⟩ := hx
  obtain ⟨p2, cap2, rfl, hcap2, hc2⟩ := hy
  have h1 := (row_in ⟨p, cap, rfl, hcap, hc⟩ : _ ∧ Lib.BytesIn w p bs.length _).2
  have h2 := (row_in ⟨p2, cap2, rfl, hcap2, hc2⟩ : _ ∧ Lib.BytesIn w p2 ys.length _).2
  have := Any.bytes_HasPrefix_all Tryd.laysBytesPrefix p p2 bs.length cap ys.length cap2 _ _ w (by simp) (by simp) hcap h1 h2
  rw [pfx_map ys bs hyb hb] at this
  exact this
theorem encW_lt (n : Int) (h1 : -9223372036854775808 ≤ n) (h2 : n ≤ 9223372036854775807) : ∀ d ∈ encW n, d < 256 := by
  have hl := low_len n h1 h2
  intro d hd
  unfold encW at hd
  rcases List.mem_cons.1 hd with rfl | hd
  · split <;> omega
  · rw [List.mem_reverse, lowB_eq] at hd
    obtain ⟨x, hx, rfl⟩ := List.mem_map.1 hd
    have := digs_lt _ x hx
    unfold flipB; split <;> omega
theorem strB_lt (s : ByteArray) (m : Nat) : ∀ d ∈ strB s m, d < 256 := by
  induction m with
  | zero => simp [strB, encS]
  | succ m ih =>
    intro d hd
    have h1 := bt_le s m
    have h0 := bt_nonneg s m
    by_cases hz : bt s m = 0
    · rw [strB_zero s m hz] at hd
      rcases List.mem_append.1 hd with hd | hd
      · exact ih d hd
      · simp at hd; omega
    · rw [strB_other s m hz] at hd
      rcases List.mem_append.1 hd with hd | hd
      · exact ih d hd
      · simp at hd; omega
theorem enc_lt (k a b : Int) (s : ByteArray) (h : okV k a b s = true) (ha : R64 a) (hb : R64 b) : ∀ d ∈ encV k a b s, d < 256 := by
  have hA := encW_lt a ha.1 ha.2
  have hB := encW_lt b hb.1 hb.2
  have hS := strB_lt s s.size
  rcases okV_kindE h with rfl | rfl | rfl | rfl | rfl | rfl | rfl <;> intro d hd
  · have : d ∈ [80] := hd
    simp at this; omega
  · have : d ∈ [48, a.toNat] := hd
    have ha' : a = 0 ∨ a = 1 := by simp [okV, Bool.and_eq_true] at h; exact h.1.1
    simp at this; omega
  · have : d ∈ encW a ++ [0] := hd
    rcases List.mem_append.1 this with h1 | h1
    · exact hA d h1
    · simp at h1; omega
  · have : d ∈ (encW a ++ [1]) ++ encW b := hd
    rcases List.mem_append.1 this with h1 | h1
    · rcases List.mem_append.1 h1 with h1 | h1
      · exact hA d h1
      · simp at h1; omega
    · exact hB d h1
  · have : d ∈ (32 :: strB s s.size) ++ [0, 0] := hd
    rcases List.mem_append.1 this with h1 | h1
    · rcases List.mem_cons.1 h1 with h1 | h1
      · omega
      · exact hS d h1
    · simp at h1; omega
  · have : d ∈ 16 :: encW a := hd
    rcases List.mem_cons.1 this with h1 | h1
    · omega
    · exact hA d h1
  · have : d ∈ 17 :: encW a := hd
    rcases List.mem_cons.1 this with h1 | h1
    · omega
    · exact hA d h1
/-- What Decode answers (P114). -/
def DAns (bs : List Nat) (k a b : Int) (s : ByteArray) (n c : Int) : Prop :=
  (okV k a b s = true ∧ R64 a ∧ R64 b ∧ (∃ rest, bs = encV k a b s ++ rest) ∧ GuessP bs k a b s ∧ n = ((encV k a b s).length : Int) ∧ c = 0)
  ∨ ((∀ k0 a0 b0 s0 rest, okV k0 a0 b0 s0 = true → R64 a0 → R64 b0 → bs ≠ encV k0 a0 b0 s0 ++ rest) ∧ k = 0 ∧ a = 0 ∧ b = 0 ∧ s = E0 ∧ n = 0 ∧ c = 15)
theorem DAns.one {bs : List Nat} {k a b n c k' a' b' n' c' : Int} {s s' : ByteArray} (h : DAns bs k a b s n c) (h' : DAns bs k' a' b' s' n' c') : k = k' ∧ a = a' ∧ b = b' ∧ s = s' ∧ n = n' ∧ c = c' := by
  rcases h with ⟨h1, h2, h3, ⟨r, h4⟩, h5, rfl, rfl⟩ | ⟨h1, rfl, rfl, rfl, rfl, rfl, rfl⟩
  · rcases h' with ⟨g1, g2, g3, ⟨q, g4⟩, g5, rfl, rfl⟩ | ⟨g1, _⟩
    · obtain ⟨rfl, rfl, rfl, rfl⟩ := h5 _ _ _ _ q g1 g2 g3 g4
      exact ⟨rfl, rfl, rfl, rfl, rfl, rfl⟩
    · exact absurd h4 (g1 _ _ _ _ r h1 h2 h3)
  · rcases h' with ⟨g1, g2, g3, ⟨q, g4⟩, _⟩ | ⟨_, rfl, rfl, rfl, rfl, rfl, rfl⟩
    · exact absurd g4 (h1 _ _ _ _ q g1 g2 g3)
    · exact ⟨rfl, rfl, rfl, rfl, rfl, rfl⟩
theorem dans_yes {bs : List Nat} {k a b : Int} {s : ByteArray} (h1 : okV k a b s = true) (h2 : R64 a) (h3 : R64 b) (h : GuessP bs k a b s) (hp : (encV k a b s).isPrefixOf bs = true) : DAns bs k a b s ((encV k a b s).length : Int) 0 := by
  obtain ⟨r, hr⟩ := List.isPrefixOf_iff_prefix.1 hp
  exact .inl ⟨h1, h2, h3, ⟨r, hr.symm⟩, h, rfl, rfl⟩
theorem dans_no {bs : List Nat} {k a b : Int} {s : ByteArray} (h : GuessP bs k a b s) (hn : okV k a b s = false ∨ (encV k a b s).isPrefixOf bs = false) : DAns bs 0 0 0 E0 0 15 := by
  refine .inr ⟨fun k0 a0 b0 s0 rest g1 g2 g3 g4 => ?_, rfl, rfl, rfl, rfl, rfl, rfl⟩
  obtain ⟨rfl, rfl, rfl, rfl⟩ := h k0 a0 b0 s0 rest g1 g2 g3 g4
  rcases hn with hn | hn
  · rw [hn] at g1; cases g1
  · have : (encV k a b s).isPrefixOf bs = true := List.isPrefixOf_iff_prefix.2 ⟨rest, g4.symm⟩
    rw [this] at hn; cases hn
/-- A decoder's answer. -/
def DecA (bs : List Nat) (w : World) (e : Ending) (w' : World) : Prop := ∃ (k a b : Int) (s : ByteArray) (n c : Int), e = .returned (.tuple #[V k a b s, .int .i64 n, .int .i64 c]) ∧ DAns bs k a b s n c ∧ G w w'
set_option maxRecDepth 100000 in
set_option maxHeartbeats 8000000 in
theorem dec_any (x : Value) (bs : List Nat) (w : World) (hT : Tabs w) (hx : RowB w x bs) (hb : ∀ d ∈ bs, d < 256) (hl : bs.length ≤ 140737488355328) : Calls Tryd.prog 17 #[x] w (DecA bs w) := by
  have H1 : Hid (∀ W, G w W → Calls Tryd.prog 28 #[x] W (GBA bs W)) := fun W g => gb_any x bs W (hx.G g) hb hl
  have HX : Hid (RowB w x bs) := hx
  have HB : Hid _ := hb
  clear hb hx
  go_enter Tryd.func17, Tryd.ntmps17
  go_wp2_with fail
  refine (H1.out _ ((G.refl w).alloc _)).mono ?_
  rintro e w1 ⟨k, a, b, s, rfl, ha, hb', hs, hp, hb1⟩
  have hc1 : ∀ o, w1.cell? { block := w.heap.size, off := o } = [I 0, I 0, I 0, .string E0][o]? := G.cells hb1 (by simp) (by simp)
  have hf1 : ∀ o, w1.frozen? { block := w.heap.size, off := o } = false := G.frozens hb1 (by simp) (by simp)
  have hz1 : w.heap.size < w1.heap.size := by have := hb1.size; simp at this; omega
  have hG1 : G w w1 := ((G.refl w).alloc _).trans hb1
  have HG1 : Hid (G w w1) := hG1
  have HP : Hid (GuessP bs k a b s) := hp
  have HI : Hid (∀ w, Tabs w → Calls Tryd.prog 21 #[V k a b s] w fun e w' => e = .returned (.tuple #[itemV k a b s, .bool (okV k a b s)]) ∧ G w w') := itemOf_any k a b s
  clear hb1 H1 hp hG1
  cases hok : okV k a b s
  · have HN : Hid (DAns bs 0 0 0 E0 0 15) := dans_no HP.out (.inl hok)
    rw [hok] at HI
    generalize itemV k a b s = y at HI
    clear hok
    go_wp2_with fail
    refine (HI.out _ (hT.G (HG1.out.alloc _))).mono ?_
    rintro e w2 ⟨rfl, hb2⟩
    have g2 : G w1 w2 := ((G.refl w1).alloc _).trans hb2
    have hc2 : ∀ o, w2.cell? { block := w.heap.size, off := o } = [I 0, I 0, I 0, .string E0][o]? := G.cells g2 hc1 hz1
    have hf2 : ∀ o, w2.frozen? { block := w.heap.size, off := o } = false := G.frozens g2 hf1 hz1
    have HG : Hid (G w w2) := HG1.out.trans g2
    clear g2 hb2 HI
    go_wp2
    exact bodyPost_ret (v := .tuple #[V0, .int .i64 0, .int .i64 15]) (by simp [results, Tryd.results17, go_sem, hc2]) rfl ⟨0, 0, 0, E0, 0, 15, rfl, HN.out, by repeat (first | exact G.refl _ | assumption | exact HG.out | refine G.alloc ?_ _ | refine G.drew ?_ | refine G.setCell ?_ (by simp) _)⟩
  · have hic := icode_any k a b s hok ha
    rw [hok] at HI
    have HL : Hid _ := enc_lt k a b s hok ha hb'
    generalize hys : encV k a b s = ys at hic HL
    obtain ⟨t, f, v, hit, hm, hf, gg⟩ := hic
    rw [hit] at HI
    have HC : Hid _ := gg
    clear gg hit
    go_wp2_with fail
    refine (HI.out _ (hT.G (HG1.out.alloc _))).mono ?_
    rintro e w2 ⟨rfl, hb2⟩
    have g2 : G w1 w2 := ((G.refl w1).alloc _).trans hb2
    have hc5 : ∀ o, w2.cell? { block := w1.heap.size, off := o } = [I k, I a, I b, .string s][o]? := G.cells hb2 (by simp) (by simp)
    have hz5 : w1.heap.size < w2.heap.size := by have := hb2.size; simp at this; omega
    have hc2 : ∀ o, w2.cell? { block := w.heap.size, off := o } = [I 0, I 0, I 0, .string E0][o]? := G.cells g2 hc1 hz1
    have hf2 : ∀ o, w2.frozen? { block := w.heap.size, off := o } = false := G.frozens g2 hf1 hz1
    have HG2 : Hid (G w w2) := HG1.out.trans g2
    clear g2 hb2 HI
    go_wp2_with fail
    refine (HC.out _).mono ?_
    rintro e w3 ⟨x3, rfl, hB3⟩
    have hc3 : ∀ o, w3.cell? { block := w.heap.size, off := o } = [I 0, I 0, I 0, .string E0][o]? := G.cells hB3.g hc2 (by omega)
    have hf3 : ∀ o, w3.frozen? { block := w.heap.size, off := o } = false := G.frozens hB3.g hf2 (by omega)
    have hc6 : ∀ o, w3.cell? { block := w1.heap.size, off := o } = [I k, I a, I b, .string s][o]? := G.cells hB3.g hc5 hz5
    have hz3 : w2.heap.size ≤ w3.heap.size := hB3.g.size
    have HG : Hid (G w w3) := HG2.out.trans hB3.g
    have HH : Hid _ := hp_any x x3 bs ys w3 (HX.out.G (HG2.out.trans hB3.g)) hB3.row HB.out HL.out
    obtain ⟨p3, c3, e3, _, _⟩ := hB3.row
    subst e3
    clear hB3 HC hc1 hf1 hc2 hf2 hc5
    cases hpf : ys.isPrefixOf bs
    · have HN : Hid (DAns bs 0 0 0 E0 0 15) := dans_no HP.out (.inr (by rw [hys]; exact hpf))
      rw [hpf] at HH
      clear hpf hys
      go_wp2_with fail
      refine Calls.mono HH.out ?_
      rintro e w4 ⟨rfl, rfl⟩
      go_wp2
      exact bodyPost_ret (v := .tuple #[V0, .int .i64 0, .int .i64 15]) (by simp [results, Tryd.results17, go_sem, hc3]) rfl ⟨0, 0, 0, E0, 0, 15, rfl, HN.out, by repeat (first | exact G.refl _ | assumption | exact HG.out | refine G.alloc ?_ _ | refine G.drew ?_ | refine G.setCell ?_ (by simp) _)⟩
    · have HN : Hid (DAns bs k a b s (ys.length : Int) 0) := by
        have := dans_yes hok ha hb' HP.out (by rw [hys]; exact hpf)
        rwa [hys] at this
      rw [hpf] at HH
      clear hpf hys
      go_wp2_with fail
      refine Calls.mono HH.out ?_
      rintro e w4 ⟨rfl, rfl⟩
      go_wp2
      exact bodyPost_ret (v := .tuple #[V k a b s, .int .i64 (ys.length : Int), .int .i64 0]) (by simp [results, Tryd.results17, go_sem, hc3]) rfl ⟨k, a, b, s, _, 0, rfl, HN.out, by repeat (first | exact G.refl _ | assumption | exact HG.out | refine G.alloc ?_ _ | refine G.drew ?_ | refine G.setCell ?_ (by simp) _)⟩
end Go.Proofs.YtdiikofgilplkaaDoor
