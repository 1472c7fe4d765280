/- Wire: the document's PutReply. -/
import Derived.Test.YtcdjjmjhdoanlaaGreatDoorW60
import Derived.Test.YtcdjjmjhdoanlaaGreatDoorW17
import Derived.Test.YtcdjjmjhdoanlaaGreatDoorW61
import Derived.Test.YtcdjjmjhdoanlaaGreatDoorW63
namespace Go.Proofs.YtcdjjmjhdoanlaaGreatDoor
section
section
section
open Go.RowKit

/-- The document's bytes. -/
def valB (x : Vl) : List Nat := x.k.toNat :: valR x.k x.a x.b x.s
def txtB (t : ByteArray) : List Nat := cnt t.size ++ bys t
def lstB {α : Type} (f : α → List Nat) (l : List α) : List Nat := cnt l.length ++ l.flatMap f
def prB (p : Pr) : List Nat := txtB p.key ++ valB p.v
def ndB (n : Nd) : List Nat := (numB n.id ++ txtB n.lb) ++ lstB prB n.ps
def edB (n : Ed) : List Nat := (((numB n.id ++ txtB n.ty) ++ numB n.fr) ++ numB n.dst) ++ lstB prB n.ps
def rwB (l : List Vl) : List Nat := lstB valB l
def tbB (t : Tb) : List Nat := (((lstB txtB t.cols ++ lstB rwB t.rows) ++ numB t.made) ++ numB t.gone) ++ numB t.set
def grB9 (ns : List Nd) (es : List Ed) : List Nat := lstB ndB ns ++ lstB edB es
def rpB (q : Rp) : List Nat := (((numB q.code ++ lstB numB q.nums) ++ lstB txtB q.texts) ++ lstB tbB q.tables) ++ grB9 q.nodes q.edges
theorem flat_at {α : Type} (f : α → List Nat) (l : List α) (i : Nat) (x : α) (hx : l[i]? = some x) : ((l.take i).flatMap f).length + (f x).length ≤ (l.flatMap f).length := by
  have h := flat_take f l (i + 1)
  rw [List.take_add_one, hx, List.flatMap_append, List.length_append] at h
  simpa using h
theorem flat_in {α : Type} (f : α → List Nat) (l : List α) (x : α) (hx : x ∈ l) : (f x).length ≤ (l.flatMap f).length := by
  obtain ⟨i, h⟩ := List.mem_iff_getElem?.1 hx
  have := flat_at f l i x h
  omega
theorem flat_next {α : Type} (f : α → List Nat) (P : List Nat) (l : List α) (i : Nat) (x : α) (hx : l[i]? = some x) : P ++ (l.take (i + 1)).flatMap f = (P ++ (l.take i).flatMap f) ++ f x := by
  rw [List.take_add_one, hx, List.flatMap_append, List.append_assoc]; simp
def VlG (x : Vl) : Prop := vOk x = true ∧ VlW x
def PrG (p : Pr) : Prop := p.key.size ≤ 140737488351232 ∧ VlG p.v
def NdG (n : Nd) : Prop := R64 n.id ∧ n.lb.size ≤ 140737488351232 ∧ n.ps.length ≤ 2000000000000 ∧ ∀ p ∈ n.ps, PrG p
def EdG (n : Ed) : Prop := R64 n.id ∧ n.ty.size ≤ 140737488351232 ∧ R64 n.fr ∧ R64 n.dst ∧ n.ps.length ≤ 2000000000000 ∧ ∀ p ∈ n.ps, PrG p
def TbG9 (t : Tb) : Prop := t.cols.length ≤ 2000000000000 ∧ (∀ c ∈ t.cols, c.size ≤ 140737488351232) ∧ t.rows.length ≤ 2000000000000 ∧ (∀ r ∈ t.rows, r.length ≤ 2000000000000 ∧ ∀ v ∈ r, VlG v) ∧ R64 t.made ∧ R64 t.gone ∧ R64 t.set
set_option maxRecDepth 100000 in
set_option maxHeartbeats 1000000 in
theorem rval_any (x : Vl) (W : World) (hg : VlG x) : Calls Tryz.prog 71 #[V x.k x.a x.b x.s] W (NewB (valB x) W) := by
  obtain ⟨k, a, c, t⟩ := x
  obtain ⟨hok, hx⟩ := hg
  have hok : okV k a c t = true := hok
  obtain ⟨k0, k6, k1⟩ := ok_kind hok
  obtain ⟨n, hn⟩ : ∃ n : Nat, k = (n : Int) := ⟨k.toNat, by omega⟩
  subst hn
  have hn6 : n ≤ 6 := by omega
  clear k0 k6
  show Calls Tryz.prog 71 #[V (n : Int) a c t] W (NewB (valB ⟨(n : Int), a, c, t⟩) W)
  by_cases h1 : n = 1
  · subst h1
    clear hn6
    show Calls Tryz.prog 71 #[V 1 a c t] W (NewB (valB ⟨1, a, c, t⟩) W)
    obtain ⟨m, hm⟩ : ∃ m : Nat, a = (m : Int) := ⟨a.toNat, by have := k1 rfl; omega⟩
    subst hm
    have hm6 : m ≤ 1 := by have := k1 rfl; omega
    clear k1
    have hB := Blk.new W [I 1, I (m : Int), I c, .string t] 137
    have hA := (G.refl W).alloc (.cells #[I 1, I (m : Int), I c, .string t] 137)
    obtain ⟨wA, hwA⟩ : ∃ wA, wA = W.alloc (.cells #[I 1, I (m : Int), I c, .string t] 137) := ⟨_, rfl⟩
    rw [← hwA] at hB hA
    have hsA : wA.heap.size = W.heap.size + 1 := by rw [hwA]; simp
    obtain ⟨w0, hw0⟩ : ∃ w0, w0 = wA.alloc (.cells #[bv 1] 5) := ⟨_, rfl⟩
    have hA0 : G wA w0 := by rw [hw0]; exact (G.refl wA).alloc _
    have hs0 : SwB w0 (.slice (some ⟨W.heap.size + 1, 0, none⟩) 1 1) [1] := by rw [hw0, ← hsA]; exact Sw.lit (E := eB) wA [1] (of_decide_eq_true (by kernel_rfl))
    have hf0 : Fresh wA (.slice (some ⟨W.heap.size + 1, 0, none⟩) 1 1) := by rw [← hsA]; exact Fresh.new wA 1 1 (G.refl wA)
    have hc0 := (hB.G hA0).cell
    have HEW : Hid ((W.alloc (.cells #[I 1, I (m : Int), I c, .string t] 137)).alloc (.cells #[.int .u8 1] 5) = w0) := by show _ = _; rw [hw0, hwA]; rfl
    have HGA := hide hA
    have HH := hide (And.intro hs0 (And.intro hA0 hf0))
    have HBX := hide hB
    have HEQ : Hid (valB ⟨1, (m : Int), c, t⟩ = [1] ++ [m]) := by show _ = _; simp [valB, valR]
    have hA1 := (G.refl w0).alloc (.cells #[bv m] 5)
    have hs1 : w0.heap.size = W.heap.size + 1 + 1 := by rw [hw0]; simp; exact hsA
    obtain ⟨u1, w1, hr5, hs5, hg5, hf5⟩ := grow_B 23 (hs0.G hA1) (one_B m) (hA0.trans hA1) hf0 (by simp)
    rw [hs1] at hr5
    have HR1 := hide hr5
    have HH1 := hide (And.intro hs5 (And.intro hg5 hf5))
    have wm : IntKind.u8.wrap (m : Int) = (m : Int) := by rw [IntKind.wrap_u8]; omega
    clear hr5 hs5 hg5 hf5 hA1 hs1 HH hm6
    clear hB hA hwA hsA hw0 hA0 hs0 hf0 hok hx
    go_enter Tryz.func71, Tryz.ntmps71
    go_wp2_with (first | (at_builtin; refine Hid.out ?_) | fail)
    unfold Hid
    try rw [wm]
    rw [HEW.out]
    refine wpList_append_run rfl _ _ 23 rfl (.slice (some ⟨W.heap.size + 1, 0, none⟩) 1 1) (.slice (some ⟨W.heap.size + 1 + 1, 0, none⟩) 1 1) rfl rfl HR1.out ?_
    go_wp2_with fail
    go_ret
    exact ⟨_, rfl, by rw [HEQ.out]; exact HH1.out.1, HGA.out.trans HH1.out.2.1, HH1.out.2.2.old HGA.out⟩
  by_cases h2 : n = 2
  · subst h2
    clear hn6
    show Calls Tryz.prog 71 #[V 2 a c t] W (NewB (valB ⟨2, a, c, t⟩) W)
    clear k1
    have hB := Blk.new W [I 2, I a, I c, .string t] 137
    have hA := (G.refl W).alloc (.cells #[I 2, I a, I c, .string t] 137)
    obtain ⟨wA, hwA⟩ : ∃ wA, wA = W.alloc (.cells #[I 2, I a, I c, .string t] 137) := ⟨_, rfl⟩
    rw [← hwA] at hB hA
    have hsA : wA.heap.size = W.heap.size + 1 := by rw [hwA]; simp
    obtain ⟨w0, hw0⟩ : ∃ w0, w0 = wA.alloc (.cells #[bv 2] 5) := ⟨_, rfl⟩
    have hA0 : G wA w0 := by rw [hw0]; exact (G.refl wA).alloc _
    have hs0 : SwB w0 (.slice (some ⟨W.heap.size + 1, 0, none⟩) 1 1) [2] := by rw [hw0, ← hsA]; exact Sw.lit (E := eB) wA [2] (of_decide_eq_true (by kernel_rfl))
    have hf0 : Fresh wA (.slice (some ⟨W.heap.size + 1, 0, none⟩) 1 1) := by rw [← hsA]; exact Fresh.new wA 1 1 (G.refl wA)
    have hc0 := (hB.G hA0).cell
    have HEW : Hid ((W.alloc (.cells #[I 2, I a, I c, .string t] 137)).alloc (.cells #[.int .u8 2] 5) = w0) := by show _ = _; rw [hw0, hwA]; rfl
    have HGA := hide hA
    have HH := hide (And.intro hs0 (And.intro hA0 hf0))
    have HBX := hide hB
    have HEQ : Hid (valB ⟨2, a, c, t⟩ = [2] ++ cnt (zig a)) := by show _ = _; simp [valB, valR]
    have HBN : Hid (1 + (cnt (zig a)).length ≤ 4000000000000) := by show _ ≤ _; exact (by have := (cnt_len (zig a) (zig_lt a hx.1)).2; omega)
    have K1 := hide (rsigned_any a w0 hx.1)
    clear hB hA hwA hsA hw0 hA0 hs0 hf0 hok hx
    go_enter Tryz.func71, Tryz.ntmps71
    go_wp2_with fail
    rw [HEW.out]
    refine K1.out.mono ?_
    rintro e w1a ⟨v1, rfl, hs2, hg2, hf2⟩
    obtain ⟨hs, hg, hf⟩ := HH.out
    obtain ⟨u1, w1b, hr5, hs5, hg5, hf5⟩ := grow_B 23 (hs.G hg2) hs2.toRow (hg.trans hg2) hf (by have := HBN.out; simp only [List.length_cons, List.length_nil]; omega)
    have HR1 := hide hr5
    have HH1 := hide (And.intro hs5 (And.intro hg5 hf5))
    clear hs hg hf hs2 hg2 hf2 hr5 hs5 hg5 hf5 K1 HH 
    have HH := HH1
    clear HH1
    go_wp2_with (first | (at_builtin; refine wpList_append_run rfl _ _ 23 rfl (.slice (some ⟨W.heap.size + 1, 0, none⟩) 1 1) (v1) rfl rfl HR1.out ?_) | fail)
    go_ret
    exact ⟨_, rfl, by rw [HEQ.out]; exact HH.out.1, HGA.out.trans HH.out.2.1, HH.out.2.2.old HGA.out⟩
  by_cases h5 : n = 5
  · subst h5
    clear hn6
    show Calls Tryz.prog 71 #[V 5 a c t] W (NewB (valB ⟨5, a, c, t⟩) W)
    clear k1
    have hB := Blk.new W [I 5, I a, I c, .string t] 137
    have hA := (G.refl W).alloc (.cells #[I 5, I a, I c, .string t] 137)
    obtain ⟨wA, hwA⟩ : ∃ wA, wA = W.alloc (.cells #[I 5, I a, I c, .string t] 137) := ⟨_, rfl⟩
    rw [← hwA] at hB hA
    have hsA : wA.heap.size = W.heap.size + 1 := by rw [hwA]; simp
    obtain ⟨w0, hw0⟩ : ∃ w0, w0 = wA.alloc (.cells #[bv 5] 5) := ⟨_, rfl⟩
    have hA0 : G wA w0 := by rw [hw0]; exact (G.refl wA).alloc _
    have hs0 : SwB w0 (.slice (some ⟨W.heap.size + 1, 0, none⟩) 1 1) [5] := by rw [hw0, ← hsA]; exact Sw.lit (E := eB) wA [5] (of_decide_eq_true (by kernel_rfl))
    have hf0 : Fresh wA (.slice (some ⟨W.heap.size + 1, 0, none⟩) 1 1) := by rw [← hsA]; exact Fresh.new wA 1 1 (G.refl wA)
    have hc0 := (hB.G hA0).cell
    have HEW : Hid ((W.alloc (.cells #[I 5, I a, I c, .string t] 137)).alloc (.cells #[.int .u8 5] 5) = w0) := by show _ = _; rw [hw0, hwA]; rfl
    have HGA := hide hA
    have HH := hide (And.intro hs0 (And.intro hA0 hf0))
    have HBX := hide hB
    have HEQ : Hid (valB ⟨5, a, c, t⟩ = [5] ++ cnt (zig a)) := by show _ = _; simp [valB, valR]
    have HBN : Hid (1 + (cnt (zig a)).length ≤ 4000000000000) := by show _ ≤ _; exact (by have := (cnt_len (zig a) (zig_lt a hx.1)).2; omega)
    have K1 := hide (rsigned_any a w0 hx.1)
    clear hB hA hwA hsA hw0 hA0 hs0 hf0 hok hx
    go_enter Tryz.func71, Tryz.ntmps71
    go_wp2_with fail
    rw [HEW.out]
    refine K1.out.mono ?_
    rintro e w1a ⟨v1, rfl, hs2, hg2, hf2⟩
    obtain ⟨hs, hg, hf⟩ := HH.out
    obtain ⟨u1, w1b, hr5, hs5, hg5, hf5⟩ := grow_B 23 (hs.G hg2) hs2.toRow (hg.trans hg2) hf (by have := HBN.out; simp only [List.length_cons, List.length_nil]; omega)
    have HR1 := hide hr5
    have HH1 := hide (And.intro hs5 (And.intro hg5 hf5))
    clear hs hg hf hs2 hg2 hf2 hr5 hs5 hg5 hf5 K1 HH 
    have HH := HH1
    clear HH1
    go_wp2_with (first | (at_builtin; refine wpList_append_run rfl _ _ 23 rfl (.slice (some ⟨W.heap.size + 1, 0, none⟩) 1 1) (v1) rfl rfl HR1.out ?_) | fail)
    go_ret
    exact ⟨_, rfl, by rw [HEQ.out]; exact HH.out.1, HGA.out.trans HH.out.2.1, HH.out.2.2.old HGA.out⟩
  by_cases h6 : n = 6
  · subst h6
    clear hn6
    show Calls Tryz.prog 71 #[V 6 a c t] W (NewB (valB ⟨6, a, c, t⟩) W)
    clear k1
    have hB := Blk.new W [I 6, I a, I c, .string t] 137
    have hA := (G.refl W).alloc (.cells #[I 6, I a, I c, .string t] 137)
    obtain ⟨wA, hwA⟩ : ∃ wA, wA = W.alloc (.cells #[I 6, I a, I c, .string t] 137) := ⟨_, rfl⟩
    rw [← hwA] at hB hA
    have hsA : wA.heap.size = W.heap.size + 1 := by rw [hwA]; simp
    obtain ⟨w0, hw0⟩ : ∃ w0, w0 = wA.alloc (.cells #[bv 6] 5) := ⟨_, rfl⟩
    have hA0 : G wA w0 := by rw [hw0]; exact (G.refl wA).alloc _
    have hs0 : SwB w0 (.slice (some ⟨W.heap.size + 1, 0, none⟩) 1 1) [6] := by rw [hw0, ← hsA]; exact Sw.lit (E := eB) wA [6] (of_decide_eq_true (by kernel_rfl))
    have hf0 : Fresh wA (.slice (some ⟨W.heap.size + 1, 0, none⟩) 1 1) := by rw [← hsA]; exact Fresh.new wA 1 1 (G.refl wA)
    have hc0 := (hB.G hA0).cell
    have HEW : Hid ((W.alloc (.cells #[I 6, I a, I c, .string t] 137)).alloc (.cells #[.int .u8 6] 5) = w0) := by show _ = _; rw [hw0, hwA]; rfl
    have HGA := hide hA
    have HH := hide (And.intro hs0 (And.intro hA0 hf0))
    have HBX := hide hB
    have HEQ : Hid (valB ⟨6, a, c, t⟩ = [6] ++ cnt (zig a)) := by show _ = _; simp [valB, valR]
    have HBN : Hid (1 + (cnt (zig a)).length ≤ 4000000000000) := by show _ ≤ _; exact (by have := (cnt_len (zig a) (zig_lt a hx.1)).2; omega)
    have K1 := hide (rsigned_any a w0 hx.1)
    clear hB hA hwA hsA hw0 hA0 hs0 hf0 hok hx
    go_enter Tryz.func71, Tryz.ntmps71
    go_wp2_with fail
    rw [HEW.out]
    refine K1.out.mono ?_
    rintro e w1a ⟨v1, rfl, hs2, hg2, hf2⟩
    obtain ⟨hs, hg, hf⟩ := HH.out
    obtain ⟨u1, w1b, hr5, hs5, hg5, hf5⟩ := grow_B 23 (hs.G hg2) hs2.toRow (hg.trans hg2) hf (by have := HBN.out; simp only [List.length_cons, List.length_nil]; omega)
    have HR1 := hide hr5
    have HH1 := hide (And.intro hs5 (And.intro hg5 hf5))
    clear hs hg hf hs2 hg2 hf2 hr5 hs5 hg5 hf5 K1 HH 
    have HH := HH1
    clear HH1
    go_wp2_with (first | (at_builtin; refine wpList_append_run rfl _ _ 23 rfl (.slice (some ⟨W.heap.size + 1, 0, none⟩) 1 1) (v1) rfl rfl HR1.out ?_) | fail)
    go_ret
    exact ⟨_, rfl, by rw [HEQ.out]; exact HH.out.1, HGA.out.trans HH.out.2.1, HH.out.2.2.old HGA.out⟩
  by_cases h3 : n = 3
  · subst h3
    clear hn6
    show Calls Tryz.prog 71 #[V 3 a c t] W (NewB (valB ⟨3, a, c, t⟩) W)
    clear k1
    have hB := Blk.new W [I 3, I a, I c, .string t] 137
    have hA := (G.refl W).alloc (.cells #[I 3, I a, I c, .string t] 137)
    obtain ⟨wA, hwA⟩ : ∃ wA, wA = W.alloc (.cells #[I 3, I a, I c, .string t] 137) := ⟨_, rfl⟩
    rw [← hwA] at hB hA
    have hsA : wA.heap.size = W.heap.size + 1 := by rw [hwA]; simp
    obtain ⟨w0, hw0⟩ : ∃ w0, w0 = wA.alloc (.cells #[bv 3] 5) := ⟨_, rfl⟩
    have hA0 : G wA w0 := by rw [hw0]; exact (G.refl wA).alloc _
    have hs0 : SwB w0 (.slice (some ⟨W.heap.size + 1, 0, none⟩) 1 1) [3] := by rw [hw0, ← hsA]; exact Sw.lit (E := eB) wA [3] (of_decide_eq_true (by kernel_rfl))
    have hf0 : Fresh wA (.slice (some ⟨W.heap.size + 1, 0, none⟩) 1 1) := by rw [← hsA]; exact Fresh.new wA 1 1 (G.refl wA)
    have hc0 := (hB.G hA0).cell
    have HEW : Hid ((W.alloc (.cells #[I 3, I a, I c, .string t] 137)).alloc (.cells #[.int .u8 3] 5) = w0) := by show _ = _; rw [hw0, hwA]; rfl
    have HGA := hide hA
    have HH := hide (And.intro hs0 (And.intro hA0 hf0))
    have HBX := hide hB
    have HEQ : Hid (valB ⟨3, a, c, t⟩ = ([3] ++ cnt (zig a)) ++ cnt (zig c)) := by show _ = _; simp [valB, valR]
    have HBN : Hid (1 + (cnt (zig a)).length + (cnt (zig c)).length ≤ 4000000000000) := by show _ ≤ _; have := (cnt_len (zig a) (zig_lt a hx.1)).2; have := (cnt_len (zig c) (zig_lt c hx.2.1)).2; omega
    have K1 := hide (rsigned_any a w0 hx.1)
    have HXC := hide hx.2.1
    clear hB hA hwA hsA hw0 hA0 hs0 hf0 hok hx
    go_enter Tryz.func71, Tryz.ntmps71
    go_wp2_with fail
    rw [HEW.out]
    refine K1.out.mono ?_
    rintro e w1a ⟨v1, rfl, hs2, hg2, hf2⟩
    obtain ⟨hs, hg, hf⟩ := HH.out
    obtain ⟨u1, w1b, hr5, hs5, hg5, hf5⟩ := grow_B 23 (hs.G hg2) hs2.toRow (hg.trans hg2) hf (by have := HBN.out; simp only [List.length_cons, List.length_nil]; omega)
    have HR1 := hide hr5
    have K2 := hide (rsigned_any c w1b HXC.out)
    have hc1 := (HBX.out.G hg5).cell
    have HH1 := hide (And.intro hs5 (And.intro hg5 hf5))
    clear hs hg hf hs2 hg2 hf2 hr5 hs5 hg5 hf5 K1 HH 
    have HH := HH1
    clear HH1
    go_wp2_with (first | (at_builtin; refine wpList_append_run rfl _ _ 23 rfl (.slice (some ⟨W.heap.size + 1, 0, none⟩) 1 1) (v1) rfl rfl HR1.out ?_) | fail)
    refine K2.out.mono ?_
    rintro e w2a ⟨v2, rfl, hs2, hg2, hf2⟩
    obtain ⟨hs, hg, hf⟩ := HH.out
    obtain ⟨u2, w2b, hr5, hs5, hg5, hf5⟩ := grow_B 23 (hs.G hg2) hs2.toRow (hg.trans hg2) hf (by have := HBN.out; simp only [List.length_append, List.length_cons, List.length_nil]; omega)
    have HR2 := hide hr5
    have HH2 := hide (And.intro hs5 (And.intro hg5 hf5))
    clear hs hg hf hs2 hg2 hf2 hr5 hs5 hg5 hf5 K2 HH 
    have HH := HH2
    clear HH2
    go_wp2_with (first | (at_builtin; refine wpList_append_run rfl _ _ 23 rfl (u1) (v2) rfl rfl HR2.out ?_) | fail)
    go_ret
    exact ⟨_, rfl, by rw [HEQ.out]; exact HH.out.1, HGA.out.trans HH.out.2.1, HH.out.2.2.old HGA.out⟩
  by_cases h4 : n = 4
  · subst h4
    clear hn6
    show Calls Tryz.prog 71 #[V 4 a c t] W (NewB (valB ⟨4, a, c, t⟩) W)
    clear k1
    have hsz : t.size ≤ 32 := by unfold okV at hok; simp at hok; exact hok.1.2
    have hB := Blk.new W [I 4, I a, I c, .string t] 137
    have hA := (G.refl W).alloc (.cells #[I 4, I a, I c, .string t] 137)
    obtain ⟨wA, hwA⟩ : ∃ wA, wA = W.alloc (.cells #[I 4, I a, I c, .string t] 137) := ⟨_, rfl⟩
    rw [← hwA] at hB hA
    have hsA : wA.heap.size = W.heap.size + 1 := by rw [hwA]; simp
    obtain ⟨w0, hw0⟩ : ∃ w0, w0 = wA.alloc (.cells #[bv 4] 5) := ⟨_, rfl⟩
    have hA0 : G wA w0 := by rw [hw0]; exact (G.refl wA).alloc _
    have hs0 : SwB w0 (.slice (some ⟨W.heap.size + 1, 0, none⟩) 1 1) [4] := by rw [hw0, ← hsA]; exact Sw.lit (E := eB) wA [4] (of_decide_eq_true (by kernel_rfl))
    have hf0 : Fresh wA (.slice (some ⟨W.heap.size + 1, 0, none⟩) 1 1) := by rw [← hsA]; exact Fresh.new wA 1 1 (G.refl wA)
    have hc0 := (hB.G hA0).cell
    have HEW : Hid ((W.alloc (.cells #[I 4, I a, I c, .string t] 137)).alloc (.cells #[.int .u8 4] 5) = w0) := by show _ = _; rw [hw0, hwA]; rfl
    have HGA := hide hA
    have HH := hide (And.intro hs0 (And.intro hA0 hf0))
    have HBX := hide hB
    have HEQ : Hid (valB ⟨4, a, c, t⟩ = [4] ++ (cnt t.size ++ bys t)) := by show _ = _; simp [valB, valR]
    have HBN : Hid (1 + ((cnt t.size ++ bys t)).length ≤ 4000000000000) := by show _ ≤ _; exact (by have := (cnt_len t.size (by omega)).2; rw [List.length_append, bys_len]; omega)
    have K1 := hide (rtext_any t w0 hx.2.2)
    clear hsz hB hA hwA hsA hw0 hA0 hs0 hf0 hok hx
    go_enter Tryz.func71, Tryz.ntmps71
    go_wp2_with fail
    rw [HEW.out]
    refine K1.out.mono ?_
    rintro e w1a ⟨v1, rfl, hs2, hg2, hf2⟩
    obtain ⟨hs, hg, hf⟩ := HH.out
    obtain ⟨u1, w1b, hr5, hs5, hg5, hf5⟩ := grow_B 23 (hs.G hg2) hs2.toRow (hg.trans hg2) hf (by have := HBN.out; simp only [List.length_cons, List.length_nil]; omega)
    have HR1 := hide hr5
    have HH1 := hide (And.intro hs5 (And.intro hg5 hf5))
    clear hs hg hf hs2 hg2 hf2 hr5 hs5 hg5 hf5 K1 HH 
    have HH := HH1
    clear HH1
    go_wp2_with (first | (at_builtin; refine wpList_append_run rfl _ _ 23 rfl (.slice (some ⟨W.heap.size + 1, 0, none⟩) 1 1) (v1) rfl rfl HR1.out ?_) | fail)
    go_ret
    exact ⟨_, rfl, by rw [HEQ.out]; exact HH.out.1, HGA.out.trans HH.out.2.1, HH.out.2.2.old HGA.out⟩
  have h0 : n = 0 := by omega
  subst h0
  clear hn6 h1 h2 h5 h6 h3 h4
  show Calls Tryz.prog 71 #[V 0 a c t] W (NewB (valB ⟨0, a, c, t⟩) W)
  clear k1
  have hB := Blk.new W [I 0, I a, I c, .string t] 137
  have hA := (G.refl W).alloc (.cells #[I 0, I a, I c, .string t] 137)
  obtain ⟨wA, hwA⟩ : ∃ wA, wA = W.alloc (.cells #[I 0, I a, I c, .string t] 137) := ⟨_, rfl⟩
  rw [← hwA] at hB hA
  have hsA : wA.heap.size = W.heap.size + 1 := by rw [hwA]; simp
  obtain ⟨w0, hw0⟩ : ∃ w0, w0 = wA.alloc (.cells #[bv 0] 5) := ⟨_, rfl⟩
  have hA0 : G wA w0 := by rw [hw0]; exact (G.refl wA).alloc _
  have hs0 : SwB w0 (.slice (some ⟨W.heap.size + 1, 0, none⟩) 1 1) [0] := by rw [hw0, ← hsA]; exact Sw.lit (E := eB) wA [0] (of_decide_eq_true (by kernel_rfl))
  have hf0 : Fresh wA (.slice (some ⟨W.heap.size + 1, 0, none⟩) 1 1) := by rw [← hsA]; exact Fresh.new wA 1 1 (G.refl wA)
  have hc0 := (hB.G hA0).cell
  have HEW : Hid ((W.alloc (.cells #[I 0, I a, I c, .string t] 137)).alloc (.cells #[.int .u8 0] 5) = w0) := by show _ = _; rw [hw0, hwA]; rfl
  have HGA := hide hA
  have HH := hide (And.intro hs0 (And.intro hA0 hf0))
  have HBX := hide hB
  have HEQ : Hid (valB ⟨0, a, c, t⟩ = [0]) := by show _ = _; simp [valB, valR]
  clear hB hA hwA hsA hw0 hA0 hs0 hf0 hok hx
  go_enter Tryz.func71, Tryz.ntmps71
  go_wp2_with fail
  rw [HEW.out]
  go_ret
  exact ⟨_, rfl, by rw [HEQ.out]; exact HH.out.1, HGA.out.trans HH.out.2.1, HH.out.2.2.old HGA.out⟩
end
open Go.RowKit

theorem rtB_any (s : ByteArray) (W : World) (hs : s.size ≤ 140737488351232) : Calls Tryz.prog 70 #[.string s] W (NewB (txtB s) W) := rtext_any s W hs
theorem rnB_any (n : Int) (W : World) (hn : R64 n) : Calls Tryz.prog 31 #[I n] W (NewB (numB n) W) := rsigned_any n W hn
set_option maxRecDepth 100000 in
set_option maxHeartbeats 1000000 in
theorem rtexts_any (l : List (ByteArray)) (v : Value) (W : World) (h : Row eS.rel W v l) (hq : ∀ x ∈ l, x.size ≤ 140737488351232) (hb : (l.flatMap txtB).length ≤ 2000000000000) (hn : l.length ≤ 2000000000000) :
    Calls Tryz.prog 33 #[v] W (NewB (cnt l.length ++ l.flatMap txtB) W) := by
  obtain ⟨p, cap, rfl⟩ := h.form
  have KC := hide (rcount_any l.length W (by omega))
  have HS := hide h
  have HQ := hide hq
  have HB := hide hb
  have HN := hide hn
  clear h hq hb
  go_enter Tryz.func33, Tryz.ntmps33
  go_wp2_with fail
  refine KC.out.mono ?_
  rintro e w1 ⟨v1, rfl, hs1, hg1, hf1⟩
  have H1 := hide (And.intro hs1 (And.intro hg1 hf1))
  clear hs1 hg1 hf1 KC
  go_wp2_with fail
  go_loopw [3, 4] (fun ov iv wr => ∃ i : Nat, iv = I i ∧ i ≤ l.length ∧ SwB wr ov (cnt l.length ++ (l.take i).flatMap txtB) ∧ G W wr ∧ Fresh W ov) (fun _ iv _ => l.length - (RowKit.intOf iv).toNat)
  case atStart => exact ⟨0, rfl, Nat.zero_le _, by simpa using H1.out.1, H1.out.2.1, H1.out.2.2⟩
  case round =>
    obtain ⟨i, rfl, hik, hs, hg, hf⟩ := hrel
    clear H1
    by_cases hil : i < l.length
    · obtain ⟨x, hx⟩ : ∃ x, l[i]? = some x := ⟨_, List.getElem?_eq_getElem hil⟩
      obtain ⟨g, o, cap', q⟩ := HS.out.addr (by omega)
      injection q with q1 q2 q3
      subst q1 q3
      have hrow := HS.out.G hg
      have hxq := HQ.out x (List.mem_of_getElem? hx)
      have x1 := RS.at hrow hx
      have i1 : (i : Int) < l.length := Int.ofNat_lt.2 hil
      have HW : Hid (wrap64 ((i : Int) + 1) = (i : Int) + 1) := by show _ = _; have := HN.out; unfold wrap64; omega
      have HIL := hide hil
      have KS := hide (rtB_any x wr hxq)
      have e1 : (cnt l.length ++ (l.take i).flatMap txtB) ++ txtB x = cnt l.length ++ (l.take (i + 1)).flatMap txtB := by
        rw [List.take_add_one, hx, List.flatMap_append, List.append_assoc]; simp
      have hlen : (cnt l.length ++ (l.take i).flatMap txtB).length + (txtB x).length ≤ 4000000000000 := by
        rw [← List.length_append, e1, List.length_append]
        have h1 := (cnt_len l.length (by have := HN.out; omega)).2
        have h2 := flat_take txtB l (i + 1)
        have := HB.out
        omega
      have HE := hide e1
      have HL := hide hlen
      have HH := hide (And.intro hs (And.intro hg hf))
      clear hik hil hx q2 hs hg hf hxq hrow e1 hlen
      go_wp2_with fail
      refine KS.out.mono ?_
      rintro e w2 ⟨v2, rfl, hs2, hg2, hf2⟩
      obtain ⟨hs, hg, hf⟩ := HH.out
      have hl := HL.out
      obtain ⟨v5, w5, hr5, hs5, hg5, hf5⟩ := grow_B 23 (hs.G hg2) hs2.toRow (hg.trans hg2) hf (Nat.le_trans hl (by decide))
      rw [HE.out] at hs5
      have HR5 := hide hr5
      have HF : Hid (∃ u, v5 = u ∧ SwB w5 u (cnt l.length ++ (l.take (i + 1)).flatMap txtB) ∧ G W w5 ∧ Fresh W u) := ⟨_, rfl, hs5, hg5, hf5⟩
      clear hs hg hf hs2 hg2 hf2 hr5 hs5 hg5 hf5 KS HH hl
      go_wp2_with (first | (at_builtin; refine wpList_append_run rfl _ _ 23 rfl u3 v2 rfl rfl HR5.out ?_) | fail)
      try rw [HW.out]
      obtain ⟨u, rfl, r1, r2, r3⟩ := HF.out
      refine ⟨⟨i + 1, rfl, HIL.out, r1, r2, r3⟩, ?_⟩
      simp only [RowKit.intOf]; have := HIL.out; omega
    · have i1 : ¬ ((i : Int) < l.length) := by omega
      have e1 : l.take i = l := List.take_of_length_le (by omega)
      rw [e1] at hs
      have HF := hide (And.intro hs (And.intro hg hf))
      clear hik hil hs hg hf e1
      go_wp2_with fail
      go_ret
      exact ⟨_, rfl, HF.out.1, HF.out.2.1, HF.out.2.2⟩
set_option maxRecDepth 100000 in
set_option maxHeartbeats 1000000 in
theorem rprops_any (l : List Pr) (v : Value) (W : World) (h : Row ePr.rel W v l) (hq : ∀ x ∈ l, PrG x) (hb : (l.flatMap prB).length ≤ 3000000000000) (hn : l.length ≤ 2000000000000) :
    Calls Tryz.prog 72 #[v] W (NewB (lstB prB l) W) := by
  obtain ⟨p, cap, rfl⟩ := h.form
  have K0 := hide (rcount_any l.length W (by omega))
  have HS := hide h
  have HQ := hide hq
  have HLN := hide hn
  have HBD : Hid ((cnt l.length).length + (l.flatMap prB).length ≤ 4000000000000) := by show _ ≤ _; have := (cnt_len l.length (by omega)).2; omega
  clear h hq hb
  go_enter Tryz.func72, Tryz.ntmps72
  go_wp2_with fail
  refine K0.out.mono ?_
  rintro e w1 ⟨v1, rfl, hs1, hg1, hf1⟩
  have HH := hide (And.intro hs1 (And.intro hg1 hf1))
  clear hs1 hg1 hf1 K0
  go_wp2_with fail
  go_loopw [3, 4] (fun ov iv wr => ∃ i : Nat, iv = I i ∧ i ≤ l.length ∧ SwB wr ov ((cnt l.length) ++ (l.take i).flatMap prB) ∧ G W wr ∧ Fresh W ov) (fun _ iv _ => l.length - (RowKit.intOf iv).toNat)
  case atStart => exact ⟨0, rfl, Nat.zero_le _, by simpa using HH.out.1, HH.out.2.1, HH.out.2.2⟩
  case round =>
    obtain ⟨i, rfl, hik, hs, hg, hf⟩ := hrel
    clear HH
    by_cases hil : i < l.length
    · obtain ⟨x, hx⟩ : ∃ x, l[i]? = some x := ⟨_, List.getElem?_eq_getElem hil⟩
      have i1 : (i : Int) < l.length := Int.ofNat_lt.2 hil
      have HW : Hid (wrap64 ((i : Int) + 1) = (i : Int) + 1) := by show _ = _; have := HLN.out; unfold wrap64; omega
      have HBN : Hid ((cnt l.length).length + ((l.take i).flatMap prB).length + (txtB x.key).length + (valB x.v).length ≤ 4000000000000) := by
        show _ ≤ _
        have h1 := flat_at prB l i x hx
        have h2 := HBD.out
        have h3 : (prB x).length = (txtB x.key).length + (valB x.v).length := by simp only [prB]; simp only [List.length_append]; try omega
        omega
      have HE : Hid ((cnt l.length) ++ (l.take (i + 1)).flatMap prB = (((cnt l.length) ++ (l.take i).flatMap prB) ++ txtB x.key) ++ valB x.v) := by
        show _ = _
        rw [flat_next prB (cnt l.length) l i x hx]
        simp only [prB, List.append_assoc]
      obtain ⟨g, o, cap', q⟩ := HS.out.addr (by omega)
      injection q with q1 q2 q3
      subst q1 q3
      clear q2
      have HXI := hide hx
      have HXQ := hide (HQ.out x (List.mem_of_getElem? hx))
      have hrow1 := HS.out.G hg
      have x1a := (RP.at hrow1 HXI.out).1
      have x1b := (RP.at hrow1 HXI.out).2.1
      have x1c := (RP.at hrow1 HXI.out).2.2.1
      have x1d := (RP.at hrow1 HXI.out).2.2.2.1
      have x1e := (RP.at hrow1 HXI.out).2.2.2.2
      clear hrow1
      have K1 := hide (rtB_any x.key wr HXQ.out.1)
      have HH := hide (And.intro hs (And.intro hg hf))
      have HIL := hide hil
      clear hik hs hg hf hil hx
      go_wp2_with fail
      refine K1.out.mono ?_
      rintro e w1a ⟨v1, rfl, hs2, hg2, hf2⟩
      obtain ⟨hs, hg, hf⟩ := HH.out
      obtain ⟨u1, w1b, hr5, hs5, hg5, hf5⟩ := grow_B 23 (hs.G hg2) hs2.toRow (hg.trans hg2) hf (by have := HBN.out; simp only [List.length_append] at this ⊢; omega)
      have HR1 := hide hr5
      have hrow2 := HS.out.G hg5
      have x2a := (RP.at hrow2 HXI.out).1
      have x2b := (RP.at hrow2 HXI.out).2.1
      have x2c := (RP.at hrow2 HXI.out).2.2.1
      have x2d := (RP.at hrow2 HXI.out).2.2.2.1
      have x2e := (RP.at hrow2 HXI.out).2.2.2.2
      clear hrow2
      have K2 := hide (rval_any x.v w1b HXQ.out.2)
      have HH1 := hide (And.intro hs5 (And.intro hg5 hf5))
      clear hs hg hf hs2 hg2 hf2 hr5 hs5 hg5 hf5 K1 HH x1a x1b x1c x1d x1e
      have HH := HH1
      clear HH1
      go_wp2_with (first | (at_builtin; refine wpList_append_run rfl _ _ 23 rfl (u3) (v1) rfl rfl HR1.out ?_) | fail)
      refine K2.out.mono ?_
      rintro e w2a ⟨v2, rfl, hs2, hg2, hf2⟩
      obtain ⟨hs, hg, hf⟩ := HH.out
      obtain ⟨u2, w2b, hr5, hs5, hg5, hf5⟩ := grow_B 23 (hs.G hg2) hs2.toRow (hg.trans hg2) hf (by have := HBN.out; simp only [List.length_append] at this ⊢; omega)
      have HR2 := hide hr5
      have HH2 := hide (And.intro hs5 (And.intro hg5 hf5))
      clear hs hg hf hs2 hg2 hf2 hr5 hs5 hg5 hf5 K2 HH x2a x2b x2c x2d x2e
      have HH := HH2
      clear HH2
      go_wp2_with (first | (at_builtin; refine wpList_append_run rfl _ _ 23 rfl (u1) (v2) rfl rfl HR2.out ?_) | fail)
      have hfin := HH.out.1
      rw [← HE.out] at hfin
      have HF := hide hfin
      clear hfin
      try rw [HW.out]
      refine ⟨⟨i + 1, rfl, HIL.out, HF.out, HH.out.2.1, HH.out.2.2⟩, ?_⟩
      simp only [RowKit.intOf]; have := HIL.out; omega
    · have i1 : ¬ ((i : Int) < l.length) := by omega
      have e1 : l.take i = l := List.take_of_length_le (by omega)
      rw [e1] at hs
      have HF := hide (And.intro hs (And.intro hg hf))
      clear hik hil hs hg hf e1
      go_wp2_with fail
      go_ret
      exact ⟨_, rfl, HF.out.1, HF.out.2.1, HF.out.2.2⟩
set_option maxRecDepth 100000 in
set_option maxHeartbeats 4000000 in
theorem rgraph_any (ns : List Nd) (es : List Ed) (d e : Value) (W : World) (h1 : Row rNd W d ns) (h2 : Row rEd W e es) (hq : (∀ x ∈ ns, NdG x) ∧ ∀ x ∈ es, EdG x) (hb : (grB9 ns es).length ≤ 2900000000000) (hn : ns.length ≤ 2000000000000 ∧ es.length ≤ 2000000000000) :
    Calls Tryz.prog 36 #[.agg #[d, e]] W (NewB (grB9 ns es) W) := by
  obtain ⟨da, dc, rfl⟩ := h1.form
  obtain ⟨ea, ec, rfl⟩ := h2.form
  have hA := (G.refl W).alloc (.cells #[.slice da ns.length dc, .slice ea es.length ec] 39)
  have hB := Blk.new W [.slice da ns.length dc, .slice ea es.length ec] 39
  obtain ⟨wA, hwA⟩ : ∃ wA, wA = W.alloc (.cells #[.slice da ns.length dc, .slice ea es.length ec] 39) := ⟨_, rfl⟩
  rw [← hwA] at hA hB
  have K0 := hide (rcount_any ns.length wA (by omega))
  have HRN := hide (h1.G hA)
  have HRE := hide (h2.G hA)
  have HQ := hide hq
  have HLN := hide hn
  have HBX := hide hB
  have HGA := hide hA
  have hgl : (grB9 ns es).length = ((cnt ns.length).length + (ns.flatMap ndB).length) + ((cnt es.length).length + (es.flatMap edB).length) := by simp only [grB9, lstB, List.length_append]
  have HTOT : Hid ((ns.flatMap ndB).length ≤ 2900000000000 ∧ (es.flatMap edB).length ≤ 2900000000000) := ⟨by omega, by omega⟩
  have HBN0 : Hid ((cnt ns.length).length + (ns.flatMap ndB).length ≤ 4000000000000) := by show _ ≤ _; omega
  have HBE : Hid (((cnt ns.length ++ ns.flatMap ndB) ++ cnt es.length).length + (es.flatMap edB).length ≤ 4000000000000) := by show _ ≤ _; simp only [List.length_append]; omega
  have HEQ : Hid (grB9 ns es = ((cnt ns.length ++ ns.flatMap ndB) ++ cnt es.length) ++ es.flatMap edB) := by show _ = _; simp only [grB9, lstB, List.append_assoc]
  have HEW : Hid (W.alloc (.cells #[.slice da ns.length dc, .slice ea es.length ec] 39) = wA) := hwA.symm
  have b0 := hB.cell
  have hn1 := hn.1
  have hn2 := hn.2
  clear h1 h2 hq hb hn hA hB hwA hgl
  go_enter Tryz.func36, Tryz.ntmps36
  go_wp2_with fail
  rw [HEW.out]
  refine K0.out.mono ?_
  rintro e w1 ⟨v1, rfl, hs1, hg1, hf1⟩
  have HH := hide (And.intro hs1 (And.intro hg1 hf1))
  clear hs1 hg1 hf1 K0 b0
  go_wp2_with fail
  go_loopw [3, 4] (fun ov iv wr => ∃ i : Nat, iv = I i ∧ i ≤ ns.length ∧ SwB wr ov ((cnt ns.length) ++ (ns.take i).flatMap ndB) ∧ G wA wr ∧ Fresh wA ov) (fun _ iv _ => ns.length - (RowKit.intOf iv).toNat)
  case atStart => exact ⟨0, rfl, Nat.zero_le _, by simpa using HH.out.1, HH.out.2.1, HH.out.2.2⟩
  case round =>
    obtain ⟨i, rfl, hik, hs, hg, hf⟩ := hrel
    clear HH
    have kb0 := (HBX.out.G hg).cell
    by_cases hil : i < ns.length
    · obtain ⟨x, hx⟩ : ∃ x, ns[i]? = some x := ⟨_, List.getElem?_eq_getElem hil⟩
      have i1 : (i : Int) < ns.length := Int.ofNat_lt.2 hil
      have HW : Hid (wrap64 ((i : Int) + 1) = (i : Int) + 1) := by show _ = _; have := HLN.out.1; unfold wrap64; omega
      have HBN : Hid ((cnt ns.length).length + ((ns.take i).flatMap ndB).length + (numB x.id).length + (txtB x.lb).length + (lstB prB x.ps).length ≤ 4000000000000) := by
        show _ ≤ _
        have h1 := flat_at ndB ns i x hx
        have h2 := HBN0.out
        have h3 : (ndB x).length = (numB x.id).length + (txtB x.lb).length + (lstB prB x.ps).length := by simp only [ndB]; simp only [List.length_append]; try omega
        omega
      have HE : Hid ((cnt ns.length) ++ (ns.take (i + 1)).flatMap ndB = ((((cnt ns.length) ++ (ns.take i).flatMap ndB) ++ numB x.id) ++ txtB x.lb) ++ lstB prB x.ps) := by
        show _ = _
        rw [flat_next ndB (cnt ns.length) ns i x hx]
        simp only [ndB, List.append_assoc]
      obtain ⟨g, o, cap', qq⟩ := HRN.out.addr (by omega)
      injection qq with q1 q2 q3
      subst q1 q3
      clear q2
      obtain ⟨cs, ⟨vp, hcs, hvp, _⟩, hr1⟩ := HRN.out.at hx
      subst hcs
      obtain ⟨pp, pc9, rfl⟩ := hvp.form
      have HRG := hide hr1
      have HVP := hide hvp
      have HXQ := hide (HQ.out.1 x (List.mem_of_getElem? hx))
      have HFX : Hid ((x.ps.flatMap prB).length ≤ 3000000000000) := by
        show _ ≤ _
        have h1 := flat_in ndB ns x (List.mem_of_getElem? hx)
        have h2 := HTOT.out
        have h3 : (x.ps.flatMap prB).length ≤ (ndB x).length := by simp only [ndB, lstB, List.length_append]; omega
        omega
      clear hr1 hvp
      have kb1 := (HBX.out.G hg).cell
      have x1a : wr.cell? ⟨g, o + i * 3, none⟩ = some (I x.id) := rangeAt_G HRG.out hg 0 _ rfl
      have x1b : wr.cell? ⟨g, o + i * 3 + 1, none⟩ = some (.string x.lb) := rangeAt_G HRG.out hg 1 _ rfl
      have x1c : wr.cell? ⟨g, o + i * 3 + 2, none⟩ = some (.slice pp x.ps.length pc9) := rangeAt_G HRG.out hg 2 _ rfl
      have K1 := hide (rnB_any x.id wr HXQ.out.1)
      have HH := hide (And.intro hs (And.intro hg hf))
      have HIL := hide hil
      clear hik hs hg hf hil hx kb0
      go_wp2_with fail
      refine K1.out.mono ?_
      rintro e w1a ⟨v1, rfl, hs2, hg2, hf2⟩
      obtain ⟨hs, hg, hf⟩ := HH.out
      obtain ⟨u1, w1b, hr5, hs5, hg5, hf5⟩ := grow_B 23 (hs.G hg2) hs2.toRow (hg.trans hg2) hf (by have := HBN.out; simp only [List.length_append] at this ⊢; omega)
      have HR1 := hide hr5
      have kb2 := (HBX.out.G hg5).cell
      have x2a : w1b.cell? ⟨g, o + i * 3, none⟩ = some (I x.id) := rangeAt_G HRG.out hg5 0 _ rfl
      have x2b : w1b.cell? ⟨g, o + i * 3 + 1, none⟩ = some (.string x.lb) := rangeAt_G HRG.out hg5 1 _ rfl
      have x2c : w1b.cell? ⟨g, o + i * 3 + 2, none⟩ = some (.slice pp x.ps.length pc9) := rangeAt_G HRG.out hg5 2 _ rfl
      have K2 := hide (rtB_any x.lb w1b HXQ.out.2.1)
      have HH1 := hide (And.intro hs5 (And.intro hg5 hf5))
      clear hs hg hf hs2 hg2 hf2 hr5 hs5 hg5 hf5 K1 HH kb1 x1a x1b x1c
      have HH := HH1
      clear HH1
      go_wp2_with (first | (at_builtin; refine wpList_append_run rfl _ _ 23 rfl (u3) (v1) rfl rfl HR1.out ?_) | fail)
      refine K2.out.mono ?_
      rintro e w2a ⟨v2, rfl, hs2, hg2, hf2⟩
      obtain ⟨hs, hg, hf⟩ := HH.out
      obtain ⟨u2, w2b, hr5, hs5, hg5, hf5⟩ := grow_B 23 (hs.G hg2) hs2.toRow (hg.trans hg2) hf (by have := HBN.out; simp only [List.length_append] at this ⊢; omega)
      have HR2 := hide hr5
      have kb3 := (HBX.out.G hg5).cell
      have x3a : w2b.cell? ⟨g, o + i * 3, none⟩ = some (I x.id) := rangeAt_G HRG.out hg5 0 _ rfl
      have x3b : w2b.cell? ⟨g, o + i * 3 + 1, none⟩ = some (.string x.lb) := rangeAt_G HRG.out hg5 1 _ rfl
      have x3c : w2b.cell? ⟨g, o + i * 3 + 2, none⟩ = some (.slice pp x.ps.length pc9) := rangeAt_G HRG.out hg5 2 _ rfl
      have K3 := hide (rprops_any x.ps _ w2b (HVP.out.G hg5) HXQ.out.2.2.2 HFX.out HXQ.out.2.2.1)
      have HH2 := hide (And.intro hs5 (And.intro hg5 hf5))
      clear hs hg hf hs2 hg2 hf2 hr5 hs5 hg5 hf5 K2 HH kb2 x2a x2b x2c
      have HH := HH2
      clear HH2
      go_wp2_with (first | (at_builtin; refine wpList_append_run rfl _ _ 23 rfl (u1) (v2) rfl rfl HR2.out ?_) | fail)
      refine K3.out.mono ?_
      rintro e w3a ⟨v3, rfl, hs2, hg2, hf2⟩
      obtain ⟨hs, hg, hf⟩ := HH.out
      obtain ⟨u3, w3b, hr5, hs5, hg5, hf5⟩ := grow_B 23 (hs.G hg2) hs2.toRow (hg.trans hg2) hf (by have := HBN.out; simp only [List.length_append] at this ⊢; omega)
      have HR3 := hide hr5
      have HH3 := hide (And.intro hs5 (And.intro hg5 hf5))
      clear hs hg hf hs2 hg2 hf2 hr5 hs5 hg5 hf5 K3 HH kb3 x3a x3b x3c
      have HH := HH3
      clear HH3
      go_wp2_with (first | (at_builtin; refine wpList_append_run rfl _ _ 23 rfl (u2) (v3) rfl rfl HR3.out ?_) | fail)
      have hfin := HH.out.1
      rw [← HE.out] at hfin
      have HF := hide hfin
      clear hfin
      try rw [HW.out]
      refine ⟨⟨i + 1, rfl, HIL.out, HF.out, HH.out.2.1, HH.out.2.2⟩, ?_⟩
      simp only [RowKit.intOf]; have := HIL.out; omega
    · have i1 : ¬ ((i : Int) < ns.length) := by omega
      have e1 : ns.take i = ns := List.take_of_length_le (by omega)
      rw [e1] at hs
      have HH := hide (And.intro hs (And.intro hg hf))
      have K1 := hide (rcount_any es.length wr (by have := HLN.out.2; omega))
      have kb1 := (HBX.out.G hg).cell
      clear hik hil hs hg hf e1
      go_wp2_with fail
      refine K1.out.mono ?_
      rintro e w1a ⟨v1, rfl, hs2, hg2, hf2⟩
      obtain ⟨hs, hg, hf⟩ := HH.out
      obtain ⟨u1, w1b, hr5, hs5, hg5, hf5⟩ := grow_B 23 (hs.G hg2) hs2.toRow (hg.trans hg2) hf (by have := HBE.out; simp only [List.length_append] at this ⊢; omega)
      have HR1 := hide hr5
      have HH1 := hide (And.intro hs5 (And.intro hg5 hf5))
      clear hs hg hf hs2 hg2 hf2 hr5 hs5 hg5 hf5 K1 HH kb1
      have HH := HH1
      clear HH1
      go_wp2_with (first | (at_builtin; refine wpList_append_run rfl _ _ 23 rfl (u3) (v1) rfl rfl HR1.out ?_) | fail)
      clear i1
      go_loopw [3, 5] (fun ov iv wr => ∃ i : Nat, iv = I i ∧ i ≤ es.length ∧ SwB wr ov (((cnt ns.length ++ ns.flatMap ndB) ++ cnt es.length) ++ (es.take i).flatMap edB) ∧ G wA wr ∧ Fresh wA ov) (fun _ iv _ => es.length - (RowKit.intOf iv).toNat)
      case atStart => exact ⟨0, rfl, Nat.zero_le _, by simpa using HH.out.1, HH.out.2.1, HH.out.2.2⟩
      case round =>
        obtain ⟨i, rfl, hik, hs, hg, hf⟩ := hrel
        clear HH
        have kb0 := (HBX.out.G hg).cell
        by_cases hil : i < es.length
        · obtain ⟨x, hx⟩ : ∃ x, es[i]? = some x := ⟨_, List.getElem?_eq_getElem hil⟩
          have i1 : (i : Int) < es.length := Int.ofNat_lt.2 hil
          have HW : Hid (wrap64 ((i : Int) + 1) = (i : Int) + 1) := by show _ = _; have := HLN.out.2; unfold wrap64; omega
          have HBN : Hid (((cnt ns.length ++ ns.flatMap ndB) ++ cnt es.length).length + ((es.take i).flatMap edB).length + (numB x.id).length + (txtB x.ty).length + (numB x.fr).length + (numB x.dst).length + (lstB prB x.ps).length ≤ 4000000000000) := by
            show _ ≤ _
            have h1 := flat_at edB es i x hx
            have h2 := HBE.out
            have h3 : (edB x).length = (numB x.id).length + (txtB x.ty).length + (numB x.fr).length + (numB x.dst).length + (lstB prB x.ps).length := by simp only [edB]; simp only [List.length_append]; try omega
            omega
          have HE : Hid (((cnt ns.length ++ ns.flatMap ndB) ++ cnt es.length) ++ (es.take (i + 1)).flatMap edB = (((((((cnt ns.length ++ ns.flatMap ndB) ++ cnt es.length) ++ (es.take i).flatMap edB) ++ numB x.id) ++ txtB x.ty) ++ numB x.fr) ++ numB x.dst) ++ lstB prB x.ps) := by
            show _ = _
            rw [flat_next edB ((cnt ns.length ++ ns.flatMap ndB) ++ cnt es.length) es i x hx]
            simp only [edB, List.append_assoc]
          obtain ⟨g, o, cap', qq⟩ := HRE.out.addr (by omega)
          injection qq with q1 q2 q3
          subst q1 q3
          clear q2
          obtain ⟨cs, ⟨vp, hcs, hvp, _⟩, hr1⟩ := HRE.out.at hx
          subst hcs
          obtain ⟨pp, pc9, rfl⟩ := hvp.form
          have HRG := hide hr1
          have HVP := hide hvp
          have HXQ := hide (HQ.out.2 x (List.mem_of_getElem? hx))
          have HFX : Hid ((x.ps.flatMap prB).length ≤ 3000000000000) := by
            show _ ≤ _
            have h1 := flat_in edB es x (List.mem_of_getElem? hx)
            have h2 := HTOT.out
            have h3 : (x.ps.flatMap prB).length ≤ (edB x).length := by simp only [edB, lstB, List.length_append]; omega
            omega
          clear hr1 hvp
          have kb1 := (HBX.out.G hg).cell
          have x1a : wr.cell? ⟨g, o + i * 5, none⟩ = some (I x.id) := rangeAt_G HRG.out hg 0 _ rfl
          have x1b : wr.cell? ⟨g, o + i * 5 + 1, none⟩ = some (.string x.ty) := rangeAt_G HRG.out hg 1 _ rfl
          have x1c : wr.cell? ⟨g, o + i * 5 + 2, none⟩ = some (I x.fr) := rangeAt_G HRG.out hg 2 _ rfl
          have x1d : wr.cell? ⟨g, o + i * 5 + 3, none⟩ = some (I x.dst) := rangeAt_G HRG.out hg 3 _ rfl
          have x1e : wr.cell? ⟨g, o + i * 5 + 4, none⟩ = some (.slice pp x.ps.length pc9) := rangeAt_G HRG.out hg 4 _ rfl
          have K1 := hide (rnB_any x.id wr HXQ.out.1)
          have HH := hide (And.intro hs (And.intro hg hf))
          have HIL := hide hil
          clear hik hs hg hf hil hx kb0
          go_wp2_with fail
          refine K1.out.mono ?_
          rintro e w1a ⟨v1, rfl, hs2, hg2, hf2⟩
          obtain ⟨hs, hg, hf⟩ := HH.out
          obtain ⟨u1, w1b, hr5, hs5, hg5, hf5⟩ := grow_B 23 (hs.G hg2) hs2.toRow (hg.trans hg2) hf (by have := HBN.out; simp only [List.length_append] at this ⊢; omega)
          have HR1 := hide hr5
          have kb2 := (HBX.out.G hg5).cell
          have x2a : w1b.cell? ⟨g, o + i * 5, none⟩ = some (I x.id) := rangeAt_G HRG.out hg5 0 _ rfl
          have x2b : w1b.cell? ⟨g, o + i * 5 + 1, none⟩ = some (.string x.ty) := rangeAt_G HRG.out hg5 1 _ rfl
          have x2c : w1b.cell? ⟨g, o + i * 5 + 2, none⟩ = some (I x.fr) := rangeAt_G HRG.out hg5 2 _ rfl
          have x2d : w1b.cell? ⟨g, o + i * 5 + 3, none⟩ = some (I x.dst) := rangeAt_G HRG.out hg5 3 _ rfl
          have x2e : w1b.cell? ⟨g, o + i * 5 + 4, none⟩ = some (.slice pp x.ps.length pc9) := rangeAt_G HRG.out hg5 4 _ rfl
          have K2 := hide (rtB_any x.ty w1b HXQ.out.2.1)
          have HH1 := hide (And.intro hs5 (And.intro hg5 hf5))
          clear hs hg hf hs2 hg2 hf2 hr5 hs5 hg5 hf5 K1 HH kb1 x1a x1b x1c x1d x1e
          have HH := HH1
          clear HH1
          go_wp2_with (first | (at_builtin; refine wpList_append_run rfl _ _ 23 rfl (u3) (v1) rfl rfl HR1.out ?_) | fail)
          refine K2.out.mono ?_
          rintro e w2a ⟨v2, rfl, hs2, hg2, hf2⟩
          obtain ⟨hs, hg, hf⟩ := HH.out
          obtain ⟨u2, w2b, hr5, hs5, hg5, hf5⟩ := grow_B 23 (hs.G hg2) hs2.toRow (hg.trans hg2) hf (by have := HBN.out; simp only [List.length_append] at this ⊢; omega)
          have HR2 := hide hr5
          have kb3 := (HBX.out.G hg5).cell
          have x3a : w2b.cell? ⟨g, o + i * 5, none⟩ = some (I x.id) := rangeAt_G HRG.out hg5 0 _ rfl
          have x3b : w2b.cell? ⟨g, o + i * 5 + 1, none⟩ = some (.string x.ty) := rangeAt_G HRG.out hg5 1 _ rfl
          have x3c : w2b.cell? ⟨g, o + i * 5 + 2, none⟩ = some (I x.fr) := rangeAt_G HRG.out hg5 2 _ rfl
          have x3d : w2b.cell? ⟨g, o + i * 5 + 3, none⟩ = some (I x.dst) := rangeAt_G HRG.out hg5 3 _ rfl
          have x3e : w2b.cell? ⟨g, o + i * 5 + 4, none⟩ = some (.slice pp x.ps.length pc9) := rangeAt_G HRG.out hg5 4 _ rfl
          have K3 := hide (rnB_any x.fr w2b HXQ.out.2.2.1)
          have HH2 := hide (And.intro hs5 (And.intro hg5 hf5))
          clear hs hg hf hs2 hg2 hf2 hr5 hs5 hg5 hf5 K2 HH kb2 x2a x2b x2c x2d x2e
          have HH := HH2
          clear HH2
          go_wp2_with (first | (at_builtin; refine wpList_append_run rfl _ _ 23 rfl (u1) (v2) rfl rfl HR2.out ?_) | fail)
          refine K3.out.mono ?_
          rintro e w3a ⟨v3, rfl, hs2, hg2, hf2⟩
          obtain ⟨hs, hg, hf⟩ := HH.out
          obtain ⟨u3, w3b, hr5, hs5, hg5, hf5⟩ := grow_B 23 (hs.G hg2) hs2.toRow (hg.trans hg2) hf (by have := HBN.out; simp only [List.length_append] at this ⊢; omega)
          have HR3 := hide hr5
          have kb4 := (HBX.out.G hg5).cell
          have x4a : w3b.cell? ⟨g, o + i * 5, none⟩ = some (I x.id) := rangeAt_G HRG.out hg5 0 _ rfl
          have x4b : w3b.cell? ⟨g, o + i * 5 + 1, none⟩ = some (.string x.ty) := rangeAt_G HRG.out hg5 1 _ rfl
          have x4c : w3b.cell? ⟨g, o + i * 5 + 2, none⟩ = some (I x.fr) := rangeAt_G HRG.out hg5 2 _ rfl
          have x4d : w3b.cell? ⟨g, o + i * 5 + 3, none⟩ = some (I x.dst) := rangeAt_G HRG.out hg5 3 _ rfl
          have x4e : w3b.cell? ⟨g, o + i * 5 + 4, none⟩ = some (.slice pp x.ps.length pc9) := rangeAt_G HRG.out hg5 4 _ rfl
          have K4 := hide (rnB_any x.dst w3b HXQ.out.2.2.2.1)
          have HH3 := hide (And.intro hs5 (And.intro hg5 hf5))
          clear hs hg hf hs2 hg2 hf2 hr5 hs5 hg5 hf5 K3 HH kb3 x3a x3b x3c x3d x3e
          have HH := HH3
          clear HH3
          go_wp2_with (first | (at_builtin; refine wpList_append_run rfl _ _ 23 rfl (u2) (v3) rfl rfl HR3.out ?_) | fail)
          refine K4.out.mono ?_
          rintro e w4a ⟨v4, rfl, hs2, hg2, hf2⟩
          obtain ⟨hs, hg, hf⟩ := HH.out
          obtain ⟨u4, w4b, hr5, hs5, hg5, hf5⟩ := grow_B 23 (hs.G hg2) hs2.toRow (hg.trans hg2) hf (by have := HBN.out; simp only [List.length_append] at this ⊢; omega)
          have HR4 := hide hr5
          have kb5 := (HBX.out.G hg5).cell
          have x5a : w4b.cell? ⟨g, o + i * 5, none⟩ = some (I x.id) := rangeAt_G HRG.out hg5 0 _ rfl
          have x5b : w4b.cell? ⟨g, o + i * 5 + 1, none⟩ = some (.string x.ty) := rangeAt_G HRG.out hg5 1 _ rfl
          have x5c : w4b.cell? ⟨g, o + i * 5 + 2, none⟩ = some (I x.fr) := rangeAt_G HRG.out hg5 2 _ rfl
          have x5d : w4b.cell? ⟨g, o + i * 5 + 3, none⟩ = some (I x.dst) := rangeAt_G HRG.out hg5 3 _ rfl
          have x5e : w4b.cell? ⟨g, o + i * 5 + 4, none⟩ = some (.slice pp x.ps.length pc9) := rangeAt_G HRG.out hg5 4 _ rfl
          have K5 := hide (rprops_any x.ps _ w4b (HVP.out.G hg5) HXQ.out.2.2.2.2.2 HFX.out HXQ.out.2.2.2.2.1)
          have HH4 := hide (And.intro hs5 (And.intro hg5 hf5))
          clear hs hg hf hs2 hg2 hf2 hr5 hs5 hg5 hf5 K4 HH kb4 x4a x4b x4c x4d x4e
          have HH := HH4
          clear HH4
          go_wp2_with (first | (at_builtin; refine wpList_append_run rfl _ _ 23 rfl (u3) (v4) rfl rfl HR4.out ?_) | fail)
          refine K5.out.mono ?_
          rintro e w5a ⟨v5, rfl, hs2, hg2, hf2⟩
          obtain ⟨hs, hg, hf⟩ := HH.out
          obtain ⟨u5, w5b, hr5, hs5, hg5, hf5⟩ := grow_B 23 (hs.G hg2) hs2.toRow (hg.trans hg2) hf (by have := HBN.out; simp only [List.length_append] at this ⊢; omega)
          have HR5 := hide hr5
          have HH5 := hide (And.intro hs5 (And.intro hg5 hf5))
          clear hs hg hf hs2 hg2 hf2 hr5 hs5 hg5 hf5 K5 HH kb5 x5a x5b x5c x5d x5e
          have HH := HH5
          clear HH5
          go_wp2_with (first | (at_builtin; refine wpList_append_run rfl _ _ 23 rfl (u4) (v5) rfl rfl HR5.out ?_) | fail)
          have hfin := HH.out.1
          rw [← HE.out] at hfin
          have HF := hide hfin
          clear hfin
          try rw [HW.out]
          refine ⟨⟨i + 1, rfl, HIL.out, HF.out, HH.out.2.1, HH.out.2.2⟩, ?_⟩
          simp only [RowKit.intOf]; have := HIL.out; omega
        · have i1 : ¬ ((i : Int) < es.length) := by omega
          have e1 : es.take i = es := List.take_of_length_le (by omega)
          rw [e1] at hs
          have HF := hide (And.intro hs (And.intro hg hf))
          clear hik hil hs hg hf e1
          have kb := (HBX.out.G HF.out.2.1).cell
          go_wp2_with fail
          go_ret
          exact ⟨_, rfl, by rw [HEQ.out]; exact HF.out.1, HGA.out.trans HF.out.2.1, HF.out.2.2.old HGA.out⟩
end
open Go.RowKit

set_option maxRecDepth 100000 in
set_option maxHeartbeats 4000000 in
theorem rtable_any (t : Tb) (u v : Value) (W : World) (h1 : Row eS.rel W u t.cols) (h2 : Row rVl W v t.rows) (hq : TbG9 t) (hb : (tbB t).length ≤ 1900000000000) :
    Calls Tryz.prog 35 #[.agg #[u, v, I t.made, I t.gone, I t.set]] W (NewB (tbB t) W) := by
  obtain ⟨ca, cc, rfl⟩ := h1.form
  obtain ⟨ra, rc, rfl⟩ := h2.form
  have hA := (G.refl W).alloc (.cells #[.slice ca t.cols.length cc, .slice ra t.rows.length rc, I t.made, I t.gone, I t.set] 74)
  have hB := Blk.new W [.slice ca t.cols.length cc, .slice ra t.rows.length rc, I t.made, I t.gone, I t.set] 74
  obtain ⟨wA, hwA⟩ : ∃ wA, wA = W.alloc (.cells #[.slice ca t.cols.length cc, .slice ra t.rows.length rc, I t.made, I t.gone, I t.set] 74) := ⟨_, rfl⟩
  rw [← hwA] at hA hB
  have hgl : (tbB t).length = ((cnt t.cols.length).length + (t.cols.flatMap txtB).length) + ((cnt t.rows.length).length + (t.rows.flatMap rwB).length) + (numB t.made).length + (numB t.gone).length + (numB t.set).length := by simp only [tbB, lstB, List.length_append]
  have K0 := hide (rtexts_any t.cols _ wA (h1.G hA) hq.2.1 (by omega) hq.1)
  have HRW := hide (h2.G hA)
  have HQ := hide hq
  have HBX := hide hB
  have HGA := hide hA
  have hlc : (lstB txtB t.cols).length = (cnt t.cols.length).length + (t.cols.flatMap txtB).length := by simp only [lstB, List.length_append]
  have HBT : Hid ((((lstB txtB t.cols) ++ cnt t.rows.length) ++ t.rows.flatMap rwB).length + (numB t.made).length + (numB t.gone).length + (numB t.set).length ≤ 4000000000000) := by show _ ≤ _; simp only [List.length_append]; omega
  have HEQ : Hid (tbB t = (((((lstB txtB t.cols) ++ cnt t.rows.length) ++ t.rows.flatMap rwB) ++ numB t.made) ++ numB t.gone) ++ numB t.set) := by show _ = _; simp only [tbB, lstB, List.append_assoc]
  have HEW : Hid (W.alloc (.cells #[.slice ca t.cols.length cc, .slice ra t.rows.length rc, I t.made, I t.gone, I t.set] 74) = wA) := hwA.symm
  have hn := hq.2.2.1
  have b0 := hB.cell
  clear h1 h2 hq hb hA hB hwA hgl hlc
  go_enter Tryz.func35, Tryz.ntmps35
  go_wp2_with fail
  rw [HEW.out]
  refine K0.out.mono ?_
  rintro e w1 ⟨v1, rfl, hs1, hg1, hf1⟩
  have hs1 : SwB w1 v1 (lstB txtB t.cols) := hs1
  have HH := hide (And.intro hs1 (And.intro hg1 hf1))
  have K1 := hide (rcount_any t.rows.length w1 (by omega))
  have kb1 := (HBX.out.G hg1).cell
  clear hs1 hg1 hf1 K0 b0
  go_wp2_with fail
  refine K1.out.mono ?_
  rintro e w1a ⟨v1c, rfl, hs2, hg2, hf2⟩
  obtain ⟨hs, hg, hf⟩ := HH.out
  obtain ⟨u1, w1b, hr5, hs5, hg5, hf5⟩ := grow_B 23 (hs.G hg2) hs2.toRow (hg.trans hg2) hf (by have := HBT.out; simp only [List.length_append] at this ⊢; omega)
  have HR1 := hide hr5
  have HH1 := hide (And.intro hs5 (And.intro hg5 hf5))
  clear hs hg hf hs2 hg2 hf2 hr5 hs5 hg5 hf5 K1 HH kb1
  have HH := HH1
  clear HH1
  go_wp2_with (first | (at_builtin; refine wpList_append_run rfl _ _ 23 rfl (v1) (v1c) rfl rfl HR1.out ?_) | fail)
  go_loopw [3, 4] (fun ov iv wr => ∃ i : Nat, iv = I i ∧ i ≤ t.rows.length ∧ SwB wr ov (((lstB txtB t.cols) ++ cnt t.rows.length) ++ (t.rows.take i).flatMap rwB) ∧ G wA wr ∧ Fresh wA ov) (fun _ iv _ => t.rows.length - (RowKit.intOf iv).toNat)
  case atStart => exact ⟨0, rfl, Nat.zero_le _, by simpa using HH.out.1, HH.out.2.1, HH.out.2.2⟩
  case round =>
    obtain ⟨i, rfl, hik, hs, hg, hf⟩ := hrel
    clear HH
    have kb0 := (HBX.out.G hg).cell
    by_cases hil : i < t.rows.length
    · obtain ⟨x, hx⟩ : ∃ x, t.rows[i]? = some x := ⟨_, List.getElem?_eq_getElem hil⟩
      have i1 : (i : Int) < t.rows.length := Int.ofNat_lt.2 hil
      have HWI : Hid (wrap64 ((i : Int) + 1) = (i : Int) + 1) := by show _ = _; unfold wrap64; omega
      have hxq := HQ.out.2.2.2.1 x (List.mem_of_getElem? hx)
      have HBN : Hid ((((lstB txtB t.cols) ++ cnt t.rows.length) ++ (t.rows.take i).flatMap rwB).length + (cnt x.length).length + (x.flatMap valB).length ≤ 4000000000000) := by
        show _ ≤ _
        have h1 := flat_at rwB t.rows i x hx
        have h2 := HBT.out
        have h3 : (rwB x).length = (cnt x.length).length + (x.flatMap valB).length := by simp only [rwB, lstB, List.length_append]
        simp only [List.length_append] at h2 ⊢
        omega
      obtain ⟨g, o, c9, qq⟩ := HRW.out.addr (by omega)
      injection qq with q1 q2 q3
      subst q1 q3
      obtain ⟨cs, ⟨vy, hcs, hvy, _⟩, hr1⟩ := HRW.out.at hx
      subst hcs
      have x0 : wr.cell? ⟨g, o + i, none⟩ = some vy := by have := rangeAt_G hr1 hg 0 _ rfl; simpa using this
      have x9 : wA.cell? ⟨g, o + i, none⟩ = some vy := by have := hr1 0 _ rfl; simpa using this
      have HVY := hide (And.intro hvy hxq)
      obtain ⟨py, cy, rfl⟩ := hvy.form
      have HX1 := hide x9
      have HXI := hide hx
      have hxn := hxq.1
      have K1 := hide (rcount_any x.length wr (by omega))
      have HH := hide (And.intro hs (And.intro hg hf))
      have HIL := hide hil
      clear hik hs hg hf hil hx hvy hr1 q2 x9 hxq
      go_wp2_with fail
      refine K1.out.mono ?_
      rintro e w1a ⟨v1, rfl, hs2, hg2, hf2⟩
      obtain ⟨hs, hg, hf⟩ := HH.out
      obtain ⟨u1, w1b, hr5, hs5, hg5, hf5⟩ := grow_B 23 (hs.G hg2) hs2.toRow (hg.trans hg2) hf (by have := HBN.out; simp only [List.length_append] at this ⊢; omega)
      have HR1 := hide hr5
      have HH1 := hide (And.intro hs5 (And.intro hg5 hf5))
      clear hs hg hf hs2 hg2 hf2 hr5 hs5 hg5 hf5 K1 HH kb0 x0
      have HH := HH1
      clear HH1
      go_wp2_with (first | (at_builtin; refine wpList_append_run rfl _ _ 23 rfl (u3) (v1) rfl rfl HR1.out ?_) | fail)
      go_loopw [3, 5] (fun ov jv wr => ∃ j : Nat, jv = I j ∧ j ≤ x.length ∧ SwB wr ov ((((lstB txtB t.cols) ++ cnt t.rows.length) ++ (t.rows.take i).flatMap rwB) ++ cnt x.length ++ (x.take j).flatMap valB) ∧ G wA wr ∧ Fresh wA ov) (fun _ jv _ => x.length - (RowKit.intOf jv).toNat)
      case atStart => exact ⟨0, rfl, Nat.zero_le _, by simpa using HH.out.1, HH.out.2.1, HH.out.2.2⟩
      case round =>
        obtain ⟨j, rfl, hjk, hs, hg, hf⟩ := hrel
        clear HH
        have kb1 := (HBX.out.G hg).cell
        have x1 := cell_G HX1.out hg
        by_cases hjl : j < x.length
        · obtain ⟨z, hz⟩ : ∃ z, x[j]? = some z := ⟨_, List.getElem?_eq_getElem hjl⟩
          have j1 : (j : Int) < x.length := Int.ofNat_lt.2 hjl
          have hvr := HVY.out.1.G hg
          obtain ⟨g3, o3, c3, qq⟩ := hvr.addr (by omega)
          injection qq with q1 q2 q3
          subst q1 q3
          obtain ⟨z1, z2, z3, z4⟩ := RV.at hvr hz
          have HWJ : Hid (wrap64 ((j : Int) + 1) = (j : Int) + 1) := by show _ = _; have := HVY.out.2.1; unfold wrap64; omega
          have HBJ : Hid (((((lstB txtB t.cols) ++ cnt t.rows.length) ++ (t.rows.take i).flatMap rwB) ++ cnt x.length ++ (x.take j).flatMap valB).length + (valB z).length ≤ 4000000000000) := by
            show _ ≤ _
            have h1 := flat_at valB x j z hz
            have h2 := HBN.out
            simp only [List.length_append] at h2 ⊢
            omega
          have HEJ : Hid ((((lstB txtB t.cols) ++ cnt t.rows.length) ++ (t.rows.take i).flatMap rwB) ++ cnt x.length ++ (x.take (j + 1)).flatMap valB = ((((lstB txtB t.cols) ++ cnt t.rows.length) ++ (t.rows.take i).flatMap rwB) ++ cnt x.length ++ (x.take j).flatMap valB) ++ valB z) := flat_next valB _ x j z hz
          have K1 := hide (rval_any z wr (HVY.out.2.2 z (List.mem_of_getElem? hz)))
          have HH := hide (And.intro hs (And.intro hg hf))
          have HJL := hide hjl
          clear hjk hs hg hf hjl hz hvr q2
          go_wp2_with fail
          refine K1.out.mono ?_
          rintro e w1a ⟨v1, rfl, hs2, hg2, hf2⟩
          obtain ⟨hs, hg, hf⟩ := HH.out
          obtain ⟨u1, w1b, hr5, hs5, hg5, hf5⟩ := grow_B 23 (hs.G hg2) hs2.toRow (hg.trans hg2) hf (by have := HBJ.out; omega)
          have HR1 := hide hr5
          have HH1 := hide (And.intro hs5 (And.intro hg5 hf5))
          clear hs hg hf hs2 hg2 hf2 hr5 hs5 hg5 hf5 K1 HH kb1 x1 z1 z2 z3 z4
          have HH := HH1
          clear HH1
          go_wp2_with (first | (at_builtin; refine wpList_append_run rfl _ _ 23 rfl (u3) (v1) rfl rfl HR1.out ?_) | fail)
          have hfin := HH.out.1
          rw [← HEJ.out] at hfin
          have HF := hide hfin
          clear hfin
          try rw [HWJ.out]
          refine ⟨⟨j + 1, rfl, HJL.out, HF.out, HH.out.2.1, HH.out.2.2⟩, ?_⟩
          simp only [RowKit.intOf]; have := HJL.out; omega
        · have j1 : ¬ ((j : Int) < x.length) := by omega
          have e1 : x.take j = x := List.take_of_length_le (by omega)
          rw [e1] at hs
          have e2 : (((lstB txtB t.cols) ++ cnt t.rows.length) ++ (t.rows.take i).flatMap rwB) ++ cnt x.length ++ x.flatMap valB = ((lstB txtB t.cols) ++ cnt t.rows.length) ++ (t.rows.take (i + 1)).flatMap rwB := by
            rw [flat_next rwB ((lstB txtB t.cols) ++ cnt t.rows.length) t.rows i x HXI.out]
            simp only [rwB, lstB, List.append_assoc]
          rw [e2] at hs
          have HF := hide (And.intro hs (And.intro hg hf))
          clear hjk hjl hs hg hf e1 e2
          go_wp2_with fail
          try rw [HWI.out]
          refine ⟨⟨i + 1, rfl, HIL.out, HF.out.1, HF.out.2.1, HF.out.2.2⟩, ?_⟩
          simp only [RowKit.intOf]; have := HIL.out; omega
    · have i1 : ¬ ((i : Int) < t.rows.length) := by omega
      have e1 : t.rows.take i = t.rows := List.take_of_length_le (by omega)
      rw [e1] at hs
      have HH := hide (And.intro hs (And.intro hg hf))
      have kb1 := (HBX.out.G hg).cell
      have K1 := hide (rnB_any t.made wr HQ.out.2.2.2.2.1)
      clear hik hil hs hg hf e1 kb0
      go_wp2_with fail
      refine K1.out.mono ?_
      rintro e w1a ⟨v1, rfl, hs2, hg2, hf2⟩
      obtain ⟨hs, hg, hf⟩ := HH.out
      obtain ⟨u1, w1b, hr5, hs5, hg5, hf5⟩ := grow_B 23 (hs.G hg2) hs2.toRow (hg.trans hg2) hf (by have := HBT.out; simp only [List.length_append] at this ⊢; omega)
      have HR1 := hide hr5
      have kb2 := (HBX.out.G hg5).cell
      have K2 := hide (rnB_any t.gone w1b HQ.out.2.2.2.2.2.1)
      have HH1 := hide (And.intro hs5 (And.intro hg5 hf5))
      clear hs hg hf hs2 hg2 hf2 hr5 hs5 hg5 hf5 K1 HH kb1
      have HH := HH1
      clear HH1
      go_wp2_with (first | (at_builtin; refine wpList_append_run rfl _ _ 23 rfl (u3) (v1) rfl rfl HR1.out ?_) | fail)
      refine K2.out.mono ?_
      rintro e w2a ⟨v2, rfl, hs2, hg2, hf2⟩
      obtain ⟨hs, hg, hf⟩ := HH.out
      obtain ⟨u2, w2b, hr5, hs5, hg5, hf5⟩ := grow_B 23 (hs.G hg2) hs2.toRow (hg.trans hg2) hf (by have := HBT.out; simp only [List.length_append] at this ⊢; omega)
      have HR2 := hide hr5
      have kb3 := (HBX.out.G hg5).cell
      have K3 := hide (rnB_any t.set w2b HQ.out.2.2.2.2.2.2)
      have HH2 := hide (And.intro hs5 (And.intro hg5 hf5))
      clear hs hg hf hs2 hg2 hf2 hr5 hs5 hg5 hf5 K2 HH kb2
      have HH := HH2
      clear HH2
      go_wp2_with (first | (at_builtin; refine wpList_append_run rfl _ _ 23 rfl (u1) (v2) rfl rfl HR2.out ?_) | fail)
      refine K3.out.mono ?_
      rintro e w3a ⟨v3, rfl, hs2, hg2, hf2⟩
      obtain ⟨hs, hg, hf⟩ := HH.out
      obtain ⟨u3, w3b, hr5, hs5, hg5, hf5⟩ := grow_B 23 (hs.G hg2) hs2.toRow (hg.trans hg2) hf (by have := HBT.out; simp only [List.length_append] at this ⊢; omega)
      have HR3 := hide hr5
      have HH3 := hide (And.intro hs5 (And.intro hg5 hf5))
      clear hs hg hf hs2 hg2 hf2 hr5 hs5 hg5 hf5 K3 HH kb3
      have HH := HH3
      clear HH3
      go_wp2_with (first | (at_builtin; refine wpList_append_run rfl _ _ 23 rfl (u2) (v3) rfl rfl HR3.out ?_) | fail)
      go_ret
      exact ⟨_, rfl, by rw [HEQ.out]; exact HH.out.1, HGA.out.trans HH.out.2.1, HH.out.2.2.old HGA.out⟩
end
open Go.RowKit

/-- Bytes, if it is sound. -/
def sm (p : Bool) (x : List Nat) : Option (List Nat) := if p = true then some x else none
theorem cat_sm (p q : Bool) (x y : List Nat) : cat (sm p x) (sm q y) = sm (p && q) (x ++ y) := by cases p <;> cases q <;> rfl
theorem catL_sm {α : Type} {f : α → Option (List Nat)} {p : α → Bool} {g : α → List Nat} (hf : ∀ x, f x = sm (p x) (g x)) : ∀ l, catL f l = sm (l.all p) (l.flatMap g)
  | [] => rfl
  | x :: l => by rw [catL, catL_sm hf l, hf, cat_sm]; rfl
theorem lstF_sm {α : Type} {f : α → Option (List Nat)} {p : α → Bool} {g : α → List Nat} (hf : ∀ x, f x = sm (p x) (g x)) (l : List α) : lstF f l = sm (l.all p) (lstB g l) := by
  unfold lstF; rw [catL_sm hf, show (some (cnt l.length) : Option (List Nat)) = sm true (cnt l.length) from rfl, cat_sm]; rfl
theorem all_true {α : Type} (l : List α) : l.all (fun _ => true) = true := List.all_eq_true.2 fun _ _ => rfl
theorem num_sm (n : Int) : numF n = sm true (numB n) := rfl
theorem txt_sm (t : ByteArray) : txtF t = sm true (txtB t) := rfl
theorem val_sm (x : Vl) : valF x = sm (vOk x) (valB x) := rfl
theorem pr_sm (p : Pr) : prF p = sm (vOk p.v) (prB p) := by unfold prF prB; rw [txt_sm, val_sm, cat_sm]; rfl
theorem nd_sm (n : Nd) : ndF n = sm (psOk n.ps) (ndB n) := by unfold ndF ndB psOk; rw [num_sm, txt_sm, lstF_sm pr_sm, cat_sm, cat_sm, List.append_assoc]; simp
theorem ed_sm (n : Ed) : edF n = sm (psOk n.ps) (edB n) := by unfold edF edB psOk; rw [num_sm, txt_sm, num_sm, num_sm, lstF_sm pr_sm, cat_sm, cat_sm, cat_sm, cat_sm]; simp
theorem rw_sm (l : List Vl) : lstF valF l = sm (rwOk l) (rwB l) := lstF_sm val_sm l
theorem tb_sm (t : Tb) : tbF t = sm (tbOk t) (tbB t) := by unfold tbF tbB tbOk; rw [num_sm, num_sm, num_sm, lstF_sm txt_sm, lstF_sm rw_sm, all_true, cat_sm, cat_sm, cat_sm, cat_sm]; simp
theorem rp_sm (q : Rp) : rpF q = sm (q.tables.all tbOk && (q.nodes.all (fun n => psOk n.ps) && q.edges.all (fun n => psOk n.ps))) (rpB q) := by unfold rpF rpB grB9; rw [num_sm, lstF_sm num_sm, lstF_sm txt_sm, lstF_sm tb_sm, lstF_sm nd_sm, lstF_sm ed_sm, all_true, all_true, cat_sm, cat_sm, cat_sm, cat_sm, cat_sm]; simp
theorem rp_yes {q : Rp} (h : rpOk q = true) : q.nums.length ≤ 4096 ∧ rpF q = some (rpB q) := by
  unfold rpOk at h
  simp only [Bool.and_eq_true, decide_eq_true_eq] at h
  obtain ⟨⟨⟨h1, h2⟩, h3⟩, h4⟩ := h
  refine ⟨h1, ?_⟩
  rw [rp_sm, h2, h3, h4]; rfl
theorem rp_no {q : Rp} (h : rpOk q = false) (hd : 0 ≤ q.dst ∧ q.dst ≤ 12) : q.code9 = 163 := by
  unfold Rp.code9
  rw [if_neg (not_not_intro hd)]
  by_cases hn : q.nums.length ≤ 4096
  · rw [if_neg (not_not_intro hn)]
    have : rpF q = none := by
      unfold rpOk at h
      rw [decide_eq_true hn] at h
      rw [rp_sm, show (q.tables.all tbOk && (q.nodes.all (fun n => psOk n.ps) && q.edges.all (fun n => psOk n.ps))) = false by rw [← Bool.and_assoc]; simpa using h]
      rfl
    rw [this]
  · rw [if_pos hn]
/-- All that a reply that is sent has. -/
structure RpX (q : Rp) : Prop where
  t : ∀ t ∈ q.tables, TbG9 t
  d : ∀ n ∈ q.nodes, NdG n
  e : ∀ n ∈ q.edges, EdG n
theorem RpX.of {q : Rp} (h : rpOk q = true) (hw : RpW q) (hb : RpB q) : RpX q := by
  unfold rpOk at h
  simp only [Bool.and_eq_true, decide_eq_true_eq] at h
  obtain ⟨⟨⟨_, h2⟩, h3⟩, h4⟩ := h
  have hB : (1099511627776 : Nat) ≤ 2000000000000 := by decide
  refine ⟨fun t ht => ?_, fun n hn => ?_, fun n hn => ?_⟩
  · obtain ⟨w1, w2, w3, w4, w5⟩ := hw.b.2 t ht
    obtain ⟨b1, b2, b3⟩ := hb.b.2 t ht
    have hk := List.all_eq_true.1 h2 t ht
    exact ⟨Nat.le_trans b1 hB, w2, Nat.le_trans b2 hB, fun r hr => ⟨Nat.le_trans (b3 r hr) hB, fun v hv => ⟨List.all_eq_true.1 (List.all_eq_true.1 hk r hr) v hv, (w4 r hr).2 v hv⟩⟩, w5⟩
  · obtain ⟨w1, w2, w3, w4⟩ := hw.d.2 n hn
    have hk := List.all_eq_true.1 h3 n hn
    exact ⟨w1, w2, Nat.le_trans (hb.d.2 n hn) hB, fun p hp => ⟨(w4 p hp).1, List.all_eq_true.1 hk p hp, (w4 p hp).2⟩⟩
  · obtain ⟨w1, w2, w3, w4, w5, w6⟩ := hw.e.2 n hn
    have hk := List.all_eq_true.1 h4 n hn
    exact ⟨w1, w2, w3, w4, Nat.le_trans (hb.e.2 n hn) hB, fun p hp => ⟨(w6 p hp).1, List.all_eq_true.1 hk p hp, (w6 p hp).2⟩⟩
theorem RpW.small {q : Rp} (h : RpW q) : RpS q := ⟨fun t ht r hr v hv => Nat.le_trans (((h.b.2 t ht).2.2.2.1 r hr).2 v hv).2.2 (by decide), fun n hn p hp => Nat.le_trans ((h.d.2 n hn).2.2.2 p hp).2.2.2 (by decide), fun n hn p hp => Nat.le_trans ((h.e.2 n hn).2.2.2.2.2 p hp).2.2.2 (by decide)⟩
theorem rnums9_any (l : List Int) (v : Value) (W : World) (h : Row eI.rel W v l) (hq : ∀ x ∈ l, R64 x) (hb : (l.flatMap numB).length ≤ 2000000000000) (hn : l.length ≤ 2000000000000) : Calls Tryz.prog 32 #[v] W (NewB (lstB numB l) W) := rnums_any l v W h hq hb hn
theorem rtexts9_any (l : List ByteArray) (v : Value) (W : World) (h : Row eS.rel W v l) (hq : ∀ x ∈ l, x.size ≤ 140737488351232) (hb : (l.flatMap txtB).length ≤ 2000000000000) (hn : l.length ≤ 2000000000000) : Calls Tryz.prog 33 #[v] W (NewB (lstB txtB l) W) := rtexts_any l v W h hq hb hn
set_option maxRecDepth 100000 in
set_option maxHeartbeats 4000000 in
theorem rputr_any (w : World) (q : Rp) (va vb vc vd ve : Value) (hv : RpL w va vb vc vd ve q) (hx : RpW q) (hB9 : RpB q) (hl9 : (rpB q).length ≤ 1800000000000) : Calls Tryz.prog 15 #[.agg #[I q.dst, I q.code, va, vb, vc, vd, ve]] w (PuP q w) := by
  have hv0 := hv
  obtain ⟨na, nc, rfl⟩ := hv.nums.form
  obtain ⟨ta, tc, rfl⟩ := hv.texts.form
  obtain ⟨ba, bc, rfl⟩ := hv.tables.form
  obtain ⟨da, dc, rfl⟩ := hv.nodes.form
  obtain ⟨ea, ec, rfl⟩ := hv.edges.form
  have hB := Blk.new w [I q.dst, I q.code, .slice na q.nums.length nc, .slice ta q.texts.length tc, .slice ba q.tables.length bc, .slice da q.nodes.length dc, .slice ea q.edges.length ec] 41
  have hA := (G.refl w).alloc (.cells #[I q.dst, I q.code, .slice na q.nums.length nc, .slice ta q.texts.length tc, .slice ba q.tables.length bc, .slice da q.nodes.length dc, .slice ea q.edges.length ec] 41)
  by_cases cK : 0 ≤ q.dst ∧ q.dst ≤ 12
  · have i6 : ¬ q.dst < 0 := by omega
    have i7 : ¬ (12 : Int) < q.dst := by omega
    obtain ⟨wA, hwA⟩ : ∃ wA, wA = w.alloc (.cells #[I q.dst, I q.code, .slice na q.nums.length nc, .slice ta q.texts.length tc, .slice ba q.tables.length bc, .slice da q.nodes.length dc, .slice ea q.edges.length ec] 41) := ⟨_, rfl⟩
    rw [← hwA] at hA hB
    have KM := hide (rmay3_any q _ _ _ _ _ wA (hv0.G hA) hx.small)
    have HV0 := hide (hv0.G hA)
    have HQ := hide hx
    have HB9 := hide hB9
    have HTL := hide hl9
    have HC := hide cK
    have HB0 := hide (And.intro hB hA)
    have HEW : Hid (w.alloc (.cells #[I q.dst, I q.code, .slice na q.nums.length nc, .slice ta q.texts.length tc, .slice ba q.tables.length bc, .slice da q.nodes.length dc, .slice ea q.edges.length ec] 41) = wA) := hwA.symm
    have b0 := hB.cell
    clear hv hv0 hx hB9 hl9 cK hwA hA hB
    go_enter Tryz.func15, Tryz.ntmps15
    go_wp2_with fail
    rw [HEW.out]
    refine KM.out.mono ?_
    rintro e wB ⟨rfl, gB⟩
    cases ok : rpOk q with
    | false =>
      have HF := hide (PuP.bad q w wB 163 (rp_no ok HC.out) (by decide) (HB0.out.2.trans gB))
      clear ok gB KM b0
      go_wp2_with fail
      go_ret2
      exact HF.out
    | true =>
      obtain ⟨hnm, hrp⟩ := rp_yes ok
      have HX := hide (RpX.of ok HQ.out HB9.out)
      have HNM := hide hnm
      have HRP := hide hrp
      have HGA0 := hide (HB0.out.2.trans gB)
      have HBX0 := hide (HB0.out.1.G gB)
      have HV1 := hide (HV0.out.G gB)
      clear ok gB KM hnm hrp b0 HB0 HV0 HEW wA
      obtain ⟨wA, hwA⟩ : ∃ wA, wA = wB := ⟨_, rfl⟩
      subst hwA
      have HGA := HGA0
      have HBX := HBX0
      have HV := HV1
      clear HGA0 HBX0 HV1
      have hgl : (rpB q).length = (numB q.code).length + ((cnt q.nums.length).length + (q.nums.flatMap numB).length) + ((cnt q.texts.length).length + (q.texts.flatMap txtB).length) + ((cnt q.tables.length).length + (q.tables.flatMap tbB).length) + (grB9 q.nodes q.edges).length := by simp only [rpB, lstB, List.length_append]
      have htl := HTL.out
      have HBL : Hid (q.nums.length ≤ 2000000000000 ∧ q.texts.length ≤ 2000000000000 ∧ q.tables.length ≤ 2000000000000 ∧ q.nodes.length ≤ 2000000000000 ∧ q.edges.length ≤ 2000000000000) := ⟨Nat.le_trans HB9.out.n (by decide), Nat.le_trans HB9.out.t (by decide), Nat.le_trans HB9.out.b.1 (by decide), Nat.le_trans HB9.out.d.1 (by decide), Nat.le_trans HB9.out.e.1 (by decide)⟩
      have HBQ : Hid ((q.nums.flatMap numB).length ≤ 2000000000000 ∧ (q.texts.flatMap txtB).length ≤ 2000000000000 ∧ (grB9 q.nodes q.edges).length ≤ 2900000000000) := ⟨by omega, by omega, by omega⟩
      have HTT : Hid ((q.tables.flatMap tbB).length ≤ 1800000000000) := by show _ ≤ _; omega
      have hl1 : (lstB numB q.nums).length = (cnt q.nums.length).length + (q.nums.flatMap numB).length := by simp only [lstB, List.length_append]
      have hl2 : (lstB txtB q.texts).length = (cnt q.texts.length).length + (q.texts.flatMap txtB).length := by simp only [lstB, List.length_append]
      have HBT : Hid ((numB q.code).length + (lstB numB q.nums).length + (lstB txtB q.texts).length + (cnt q.tables.length).length ≤ 4000000000000) := by show _ ≤ _; omega
      have HBG : Hid ((((((numB q.code) ++ lstB numB q.nums) ++ lstB txtB q.texts) ++ cnt q.tables.length) ++ q.tables.flatMap tbB).length + (grB9 q.nodes q.edges).length ≤ 4000000000000) := by show _ ≤ _; simp only [List.length_append]; omega
      have HEQ : Hid (rpB q = (((((numB q.code) ++ lstB numB q.nums) ++ lstB txtB q.texts) ++ cnt q.tables.length) ++ q.tables.flatMap tbB) ++ grB9 q.nodes q.edges) := by show _ = _; simp only [rpB, lstB, List.append_assoc]
      have K0 := hide (rnB_any q.code wA HQ.out.c)
      have b1 := HBX.out.cell
      have hn := HBL.out.2.2.1
      clear hgl htl hl1 hl2
      go_wp2_with fail
      refine K0.out.mono ?_
      rintro e w0 ⟨v0, rfl, hs1, hg1, hf1⟩
      have HH := hide (And.intro hs1 (And.intro hg1 hf1))
      have K1 := hide (rnums9_any q.nums _ w0 (HV.out.nums.G hg1) HQ.out.n.2 HBQ.out.1 HBL.out.1)
      have kb1 := (HBX.out.G hg1).cell
      clear hs1 hg1 hf1 K0 b1
      go_wp2_with fail
      refine K1.out.mono ?_
      rintro e w1a ⟨v1, rfl, hs2, hg2, hf2⟩
      obtain ⟨hs, hg, hf⟩ := HH.out
      obtain ⟨u1, w1b, hr5, hs5, hg5, hf5⟩ := grow_B 23 (hs.G hg2) hs2.toRow (hg.trans hg2) hf (by have := HBT.out; (try simp only [List.length_append] at this ⊢); omega)
      have HR1 := hide hr5
      have kb2 := (HBX.out.G hg5).cell
      have K2 := hide (rtexts9_any q.texts _ w1b (HV.out.texts.G hg5) HQ.out.t.2 HBQ.out.2.1 HBL.out.2.1)
      have HH1 := hide (And.intro hs5 (And.intro hg5 hf5))
      clear hs hg hf hs2 hg2 hf2 hr5 hs5 hg5 hf5 K1 HH kb1
      have HH := HH1
      clear HH1
      go_wp2_with (first | (at_builtin; refine wpList_append_run rfl _ _ 23 rfl (v0) (v1) rfl rfl HR1.out ?_) | fail)
      refine K2.out.mono ?_
      rintro e w2a ⟨v2, rfl, hs2, hg2, hf2⟩
      obtain ⟨hs, hg, hf⟩ := HH.out
      obtain ⟨u2, w2b, hr5, hs5, hg5, hf5⟩ := grow_B 23 (hs.G hg2) hs2.toRow (hg.trans hg2) hf (by have := HBT.out; (try simp only [List.length_append] at this ⊢); omega)
      have HR2 := hide hr5
      have kb3 := (HBX.out.G hg5).cell
      have K3 := hide (rcount_any q.tables.length w2b (by have := HBL.out.2.2.1; omega))
      have HH2 := hide (And.intro hs5 (And.intro hg5 hf5))
      clear hs hg hf hs2 hg2 hf2 hr5 hs5 hg5 hf5 K2 HH kb2
      have HH := HH2
      clear HH2
      go_wp2_with (first | (at_builtin; refine wpList_append_run rfl _ _ 23 rfl (u1) (v2) rfl rfl HR2.out ?_) | fail)
      refine K3.out.mono ?_
      rintro e w3a ⟨v3, rfl, hs2, hg2, hf2⟩
      obtain ⟨hs, hg, hf⟩ := HH.out
      obtain ⟨u3, w3b, hr5, hs5, hg5, hf5⟩ := grow_B 23 (hs.G hg2) hs2.toRow (hg.trans hg2) hf (by have := HBT.out; (try simp only [List.length_append] at this ⊢); omega)
      have HR3 := hide hr5
      have HH3 := hide (And.intro hs5 (And.intro hg5 hf5))
      clear hs hg hf hs2 hg2 hf2 hr5 hs5 hg5 hf5 K3 HH kb3
      have HH := HH3
      clear HH3
      go_wp2_with (first | (at_builtin; refine wpList_append_run rfl _ _ 23 rfl (u2) (v3) rfl rfl HR3.out ?_) | fail)
      go_loopw [4, 5] (fun ov iv wr => ∃ i : Nat, iv = I i ∧ i ≤ q.tables.length ∧ SwB wr ov (((((numB q.code) ++ lstB numB q.nums) ++ lstB txtB q.texts) ++ cnt q.tables.length) ++ (q.tables.take i).flatMap tbB) ∧ G wA wr ∧ Fresh wA ov) (fun _ iv _ => q.tables.length - (RowKit.intOf iv).toNat)
      case atStart => exact ⟨0, rfl, Nat.zero_le _, by simpa using HH.out.1, HH.out.2.1, HH.out.2.2⟩
      case round =>
        obtain ⟨i, rfl, hik, hs, hg, hf⟩ := hrel
        clear HH
        have kb0 := (HBX.out.G hg).cell
        by_cases hil : i < q.tables.length
        · obtain ⟨x, hx⟩ : ∃ x, q.tables[i]? = some x := ⟨_, List.getElem?_eq_getElem hil⟩
          have i1 : (i : Int) < q.tables.length := Int.ofNat_lt.2 hil
          have HW : Hid (wrap64 ((i : Int) + 1) = (i : Int) + 1) := by show _ = _; have := HBL.out.2.2.1; unfold wrap64; omega
          have HBN : Hid ((((((numB q.code) ++ lstB numB q.nums) ++ lstB txtB q.texts) ++ cnt q.tables.length) ++ (q.tables.take i).flatMap tbB).length + (tbB x).length ≤ 4000000000000) := by
            show _ ≤ _
            have h1 := flat_at tbB q.tables i x hx
            have h2 := HBG.out
            simp only [List.length_append] at h2 ⊢
            omega
          have HE : Hid (((((numB q.code) ++ lstB numB q.nums) ++ lstB txtB q.texts) ++ cnt q.tables.length) ++ (q.tables.take (i + 1)).flatMap tbB = (((((numB q.code) ++ lstB numB q.nums) ++ lstB txtB q.texts) ++ cnt q.tables.length) ++ (q.tables.take i).flatMap tbB) ++ tbB x) := flat_next tbB _ q.tables i x hx
          obtain ⟨g, o, c9, qq⟩ := HV.out.tables.addr (by omega)
          injection qq with q1 q2 q3
          subst q1 q3
          obtain ⟨cs, ⟨vu, vv, hcs, hvu, hvv, _, _⟩, hr1⟩ := HV.out.tables.at hx
          subst hcs
          have K1 := hide (rtable_any x vu vv wr (hvu.G hg) (hvv.G hg) (HX.out.t x (List.mem_of_getElem? hx)) (by have h1 := flat_in tbB q.tables x (List.mem_of_getElem? hx); have h2 := HTT.out; omega))
          obtain ⟨ca, cc, rfl⟩ := hvu.form
          obtain ⟨ra, rc, rfl⟩ := hvv.form
          have x0 : wr.cell? ⟨g, o + i * 5, none⟩ = some (.slice ca x.cols.length cc) := rangeAt_G hr1 hg 0 _ rfl
          have x1 : wr.cell? ⟨g, o + i * 5 + 1, none⟩ = some (.slice ra x.rows.length rc) := rangeAt_G hr1 hg 1 _ rfl
          have x2 : wr.cell? ⟨g, o + i * 5 + 2, none⟩ = some (I x.made) := rangeAt_G hr1 hg 2 _ rfl
          have x3 : wr.cell? ⟨g, o + i * 5 + 3, none⟩ = some (I x.gone) := rangeAt_G hr1 hg 3 _ rfl
          have x4 : wr.cell? ⟨g, o + i * 5 + 4, none⟩ = some (I x.set) := rangeAt_G hr1 hg 4 _ rfl
          have HH := hide (And.intro hs (And.intro hg hf))
          have HIL := hide hil
          clear hik hs hg hf hil hx hvu hvv hr1 q2
          go_wp2_with fail
          refine K1.out.mono ?_
          rintro e w1a ⟨v1, rfl, hs2, hg2, hf2⟩
          obtain ⟨hs, hg, hf⟩ := HH.out
          obtain ⟨u1, w1b, hr5, hs5, hg5, hf5⟩ := grow_B 23 (hs.G hg2) hs2.toRow (hg.trans hg2) hf (by have := HBN.out; omega)
          have HR1 := hide hr5
          have HH1 := hide (And.intro hs5 (And.intro hg5 hf5))
          clear hs hg hf hs2 hg2 hf2 hr5 hs5 hg5 hf5 K1 HH kb0 x0 x1 x2 x3 x4
          have HH := HH1
          clear HH1
          go_wp2_with (first | (at_builtin; refine wpList_append_run rfl _ _ 23 rfl (u4) (v1) rfl rfl HR1.out ?_) | fail)
          have hfin := HH.out.1
          rw [← HE.out] at hfin
          have HF := hide hfin
          clear hfin
          try rw [HW.out]
          refine ⟨⟨i + 1, rfl, HIL.out, HF.out, HH.out.2.1, HH.out.2.2⟩, ?_⟩
          simp only [RowKit.intOf]; have := HIL.out; omega
        · have i1 : ¬ ((i : Int) < q.tables.length) := by omega
          have e1 : q.tables.take i = q.tables := List.take_of_length_le (by omega)
          rw [e1] at hs
          have HH := hide (And.intro hs (And.intro hg hf))
          have kb1 := (HBX.out.G hg).cell
          have K1 := hide (rgraph_any q.nodes q.edges _ _ wr (HV.out.nodes.G hg) (HV.out.edges.G hg) ⟨HX.out.d, HX.out.e⟩ HBQ.out.2.2 HBL.out.2.2.2)
          clear hik hil hs hg hf e1 kb0
          go_wp2_with fail
          refine K1.out.mono ?_
          rintro e w1a ⟨v1, rfl, hs2, hg2, hf2⟩
          obtain ⟨hs, hg, hf⟩ := HH.out
          obtain ⟨u1, w1b, hr5, hs5, hg5, hf5⟩ := grow_B 23 (hs.G hg2) hs2.toRow (hg.trans hg2) hf (by have := HBG.out; simp only [List.length_append] at this ⊢; omega)
          have HR1 := hide hr5
          have kb2 := (HBX.out.G hg5).cell
          have K2 := hide (rframe_any (128 + q.dst) (rpB q) u1 w1b (by rw [HEQ.out]; exact hs5.toRow) (ByO.rp q _ HRP.out) (Nat.le_trans HTL.out (by decide)))
          have HH1 := hide (And.intro hs5 (And.intro hg5 hf5))
          clear hs hg hf hs2 hg2 hf2 hr5 hs5 hg5 hf5 K1 HH kb1
          have HH := HH1
          clear HH1
          go_wp2_with (first | (at_builtin; refine wpList_append_run rfl _ _ 23 rfl (u4) (v1) rfl rfl HR1.out ?_) | fail)
          have wk : wrap64 (128 + q.dst) = 128 + q.dst := by have := HC.out; unfold wrap64; omega
          try rw [wk]
          refine K2.out.mono ?_
          rintro e w5 ⟨v5, rfl, hs5, hg5, hf5⟩
          have HF : Hid (PuP q w (.returned (.tuple #[v5, I (frC (128 + q.dst) (rpB q).length)])) w5) := by
            have hg9 := HGA.out.trans (HH.out.2.1.trans hg5)
            have hcode : q.code9 = if 2097152 < (rpB q).length then 163 else 0 := by unfold Rp.code9; rw [if_neg (not_not_intro HC.out), if_neg (not_not_intro HNM.out), HRP.out]
            have hfr := frC_in9 q.dst (rpB q).length HC.out
            refine ⟨v5, by rw [hfr, hcode], ?_, hg9, hf5.old (HGA.out.trans HH.out.2.1)⟩
            rw [Rp.frame9, hcode]
            rw [frL, hfr] at hs5
            by_cases cl : 2097152 < (rpB q).length
            · rw [if_pos cl, if_neg (by decide)] at hs5 ⊢; exact hs5
            · rw [if_neg cl, if_pos rfl] at hs5 ⊢; rw [HRP.out]; exact hs5
          clear hs5 hg5 hf5 K2 kb2
          go_wp2_with fail
          go_ret2
          exact HF.out
  · have HF := hide (PuP.bad q w _ 162 (by unfold Rp.code9; rw [if_pos cK]) (by decide) hA)
    clear hv hv0 hx hB9 hl9 hB hA
    by_cases i6 : q.dst < 0
    · clear cK
      go_enter Tryz.func15, Tryz.ntmps15
      go_wp2_with fail
      go_ret2
      exact HF.out
    · have i7 : (12 : Int) < q.dst := by omega
      clear cK
      go_enter Tryz.func15, Tryz.ntmps15
      go_wp2_with fail
      go_ret2
      exact HF.out
end Go.Proofs.YtcdjjmjhdoanlaaGreatDoor
