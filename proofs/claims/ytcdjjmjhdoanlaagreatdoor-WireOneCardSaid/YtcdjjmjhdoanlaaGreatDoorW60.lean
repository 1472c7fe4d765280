/- Wire: a reply, written by the program. -/
import Derived.Test.YtcdjjmjhdoanlaaGreatDoorW53
import Derived.Test.YtcdjjmjhdoanlaaGreatDoorW13
namespace Go.Proofs.YtcdjjmjhdoanlaaGreatDoor
open Go.RowKit

def txtF (t : ByteArray) : Option (List Nat) := some (cnt t.size ++ bys t)
def lstF {α : Type} (f : α → Option (List Nat)) (l : List α) : Option (List Nat) := cat (some (cnt l.length)) (catL f l)
/-- A value's bytes behind its kind. -/
def valR (k a b : Int) (s : ByteArray) : List Nat := if k = 1 then [a.toNat] else if k = 2 ∨ k = 5 ∨ k = 6 then cnt (zig a) else if k = 3 then cnt (zig a) ++ cnt (zig b) else if k = 4 then cnt s.size ++ bys s else []
def valF (x : Vl) : Option (List Nat) := if vOk x = true then some (x.k.toNat :: valR x.k x.a x.b x.s) else none
def prF (p : Pr) : Option (List Nat) := cat (txtF p.key) (valF p.v)
def ndF (n : Nd) : Option (List Nat) := cat (numF n.id) (cat (txtF n.lb) (lstF prF n.ps))
def edF (n : Ed) : Option (List Nat) := cat (numF n.id) (cat (txtF n.ty) (cat (numF n.fr) (cat (numF n.dst) (lstF prF n.ps))))
def tbF (t : Tb) : Option (List Nat) := cat (lstF txtF t.cols) (cat (lstF (lstF valF) t.rows) (cat (numF t.made) (cat (numF t.gone) (numF t.set))))
def rpF (q : Rp) : Option (List Nat) := cat (numF q.code) (cat (lstF numF q.nums) (cat (lstF txtF q.texts) (cat (lstF tbF q.tables) (cat (lstF ndF q.nodes) (lstF edF q.edges)))))
/-- What may come in. -/
def VlW (x : Vl) : Prop := R64 x.a ∧ R64 x.b ∧ x.s.size ≤ 140737488351232
def PrW (p : Pr) : Prop := p.key.size ≤ 140737488351232 ∧ VlW p.v
def NdW (n : Nd) : Prop := R64 n.id ∧ n.lb.size ≤ 140737488351232 ∧ n.ps.length ≤ 140737488351232 ∧ ∀ p ∈ n.ps, PrW p
def EdW (n : Ed) : Prop := R64 n.id ∧ n.ty.size ≤ 140737488351232 ∧ R64 n.fr ∧ R64 n.dst ∧ n.ps.length ≤ 140737488351232 ∧ ∀ p ∈ n.ps, PrW p
def RwW (l : List Vl) : Prop := l.length ≤ 140737488351232 ∧ ∀ v ∈ l, VlW v
def TbW (t : Tb) : Prop := t.cols.length ≤ 140737488351232 ∧ (∀ c ∈ t.cols, c.size ≤ 140737488351232) ∧ t.rows.length ≤ 140737488351232 ∧ (∀ r ∈ t.rows, RwW r) ∧ R64 t.made ∧ R64 t.gone ∧ R64 t.set
structure RpW (q : Rp) : Prop where
  c : R64 q.code
  n : q.nums.length ≤ 140737488351232 ∧ ∀ x ∈ q.nums, R64 x
  t : q.texts.length ≤ 140737488351232 ∧ ∀ x ∈ q.texts, x.size ≤ 140737488351232
  b : q.tables.length ≤ 140737488351232 ∧ ∀ x ∈ q.tables, TbW x
  d : q.nodes.length ≤ 140737488351232 ∧ ∀ x ∈ q.nodes, NdW x
  e : q.edges.length ≤ 140737488351232 ∧ ∀ x ∈ q.edges, EdW x
theorem one_B {w : World} (n : Nat) : Rb (w.alloc (.cells #[bv n] 5)) (.slice (some ⟨w.heap.size, 0, none⟩) 1 1) [n] := Row.lit (E := eB) w 5 [n] 1 (by simp)
theorem Tabs.w {W w : World} (h : Tabs W) (g : Go.Proofs.YtcdjjmjhdoanlaaGreatDoor.G W w) : Tabs w := h.G g
theorem ok_kind {k a b : Int} {s : ByteArray} (h : okV k a b s = true) : 0 ≤ k ∧ k ≤ 6 ∧ (k = 1 → 0 ≤ a ∧ a ≤ 1) := by
  unfold okV at h
  by_cases h0 : k = 0
  · omega
  by_cases h1 : k = 1
  · rw [if_neg h0, if_pos h1] at h
    simp at h
    omega
  by_cases h2 : k = 2
  · omega
  by_cases h3 : k = 3
  · omega
  by_cases h4 : k = 4
  · omega
  by_cases h5 : k = 5 ∨ k = 6
  · omega
  · rw [if_neg h0, if_neg h1, if_neg h2, if_neg h3, if_neg h4, if_neg h5] at h; cases h
set_option maxRecDepth 100000 in
set_option maxHeartbeats 1000000 in
theorem value_any (W0 B w : World) (b : Nat) (s : Option (List Nat)) (x : Vl) (h : Wst W0 B w b s) (hx : VlW x) (hT : Tabs W0) :
    Calls Tryz.prog 97 #[ptr b, V x.k x.a x.b x.s] w fun e w' => e = .returned (.tuple #[]) ∧ Wst W0 B w' b (wap s (valF x)) := by
  obtain ⟨k, a, c, t⟩ := x
  have hA := (G.refl w).alloc (.cells #[I k, I a, I c, .string t] 137)
  have hB := Blk.new w [I k, I a, I c, .string t] 137
  have hh := (h.G hA).rebase
  have HKP := hide hh.2
  have HB := hide hB
  have HX := hide hx
  have KV := hide (Valid_any k a c t _ (hT.G (h.g.trans hA)))
  have HW := hide hh.1
  have hc := hB.cell
  clear h hB hA hh hx hT
  show Calls Tryz.prog 97 #[ptr b, V k a c t] w fun e w' => e = .returned (.tuple #[]) ∧ Wst W0 B w' b (wap s (valF ⟨k, a, c, t⟩))
  obtain ⟨R, hR⟩ : ∃ R, R = valF ⟨k, a, c, t⟩ := ⟨_, rfl⟩
  rw [← hR]
  have HR := hide hR
  clear hR
  go_enter Tryz.func97, Tryz.ntmps97
  go_wp2_with fail
  generalize w.alloc (.cells #[I k, I a, I c, .string t] 137) = wA at HB HKP KV HW hc ⊢
  refine KV.out.mono ?_
  rintro e w1 ⟨rfl, g1⟩
  have hw1 := HW.out.G g1
  have hb1 := HB.out.G g1
  clear KV hc HW
  cases ok : okV k a c t with
  | false =>
    have hF : wap s R = none := by rw [HR.out]; unfold valF vOk; rw [if_neg (by simp [ok])]; cases s <;> rfl
    obtain ⟨l1, bad1, hr1, _⟩ := hw1.wr
    obtain ⟨_, _, _, ⟨v1, hB1, _, _⟩, _⟩ := id hr1
    have kc := hB1.cell
    have kf := hB1.frozen
    have HF : Hid (Wst W0 B (w1.setCell ⟨b, 1, none⟩ (.bool true)) b (wap s R)) := by
      show Wst _ _ _ _ _
      rw [hF]
      exact Wst.base (s := none) ⟨l1, hr1.spoil⟩ HKP.out
    clear hw1 hb1 hr1 hB1 g1 hF ok
    go_wp2_with fail
    exact ⟨rfl, _, results_none rfl _ _ _, rfl, HF.out⟩
  | true =>
    have hF : R = some (k.toNat :: valR k a c t) := by rw [HR.out]; unfold valF vOk; rw [if_pos ok]
    clear HR
    obtain ⟨k0, k6, k1⟩ := ok_kind ok
    obtain ⟨n, hn⟩ : ∃ n : Nat, k = (n : Int) := ⟨k.toNat, by omega⟩
    subst hn
    have hn6 : n ≤ 6 := by omega
    rw [Int.toNat_natCast] at hF
    have HR := hide hF
    clear ok hF k0 k6
    have hA2 := (G.refl w1).alloc (.cells #[bv n] 5)
    have K2 := hide (put_any W0 _ _ b s _ [n] ((hw1.rebase.1.G hA2)) (one_B n))
    have HKQ := hide (hw1.rebase.2)
    have HB1 := hide hb1
    have hc1 := hb1.cell
    have wn : IntKind.u8.wrap (n : Int) = (n : Int) := by rw [IntKind.wrap_u8]; omega
    clear hw1 hb1 hA2 g1
    go_wp2_with fail
    try rw [wn]
    generalize w1.alloc (.cells #[bv n] 5) = w2 at K2 ⊢
    refine K2.out.mono ?_
    rintro e w3 ⟨rfl, hw3⟩
    have hb3 := hw3.k.blk HB1.out (by decide) (by decide)
    have HB3 := hide hb3
    have hc3 := hb3.cell
    have HW3 := hide hw3
    clear hw3 hb3 K2 hc1 wn
    by_cases h1 : n = 1
    · subst h1
      obtain ⟨m, hm⟩ : ∃ m : Nat, a = (m : Int) := ⟨a.toNat, by have := k1 rfl; omega⟩
      subst hm
      have hm6 : m ≤ 1 := by have := k1 rfl; omega
      have hA4 := (G.refl w3).alloc (.cells #[bv m] 5)
      have K4 := hide (put_any W0 _ _ b _ _ [m] (HW3.out.G hA4) (one_B m))
      have wm : IntKind.u8.wrap (m : Int) = (m : Int) := by rw [IntKind.wrap_u8]; omega
      clear k1 hA4 hn6
      go_wp2_with fail
      try rw [wm]
      generalize w3.alloc (.cells #[bv m] 5) = w4 at K4 ⊢
      refine K4.out.mono ?_
      rintro e w5 ⟨rfl, hw5⟩
      rw [wap_cat] at hw5
      have e9 : R = (cat (some [1]) (some [m])) := by rw [HR.out]; simp [valR, cat]
      have HF : Hid (Wst W0 B w5 b (wap s R)) := by
        show Wst _ _ _ _ _
        rw [e9]
        exact Wst.base (Wst.base hw5 HKQ.out) HKP.out
      clear e9
      clear hw5 K4
      go_wp2_with fail
      exact ⟨rfl, _, results_none rfl _ _ _, rfl, HF.out⟩
    by_cases h2 : n = 2
    · subst h2
      have K4 := hide (number_any W0 _ w3 b _ a HW3.out HX.out.1)
      clear k1 hn6
      go_wp2_with fail
      refine K4.out.mono ?_
      rintro e w5 ⟨rfl, hw5⟩
      rw [wap_cat] at hw5
      have e9 : R = (cat (some [2]) (some (cnt (zig a)))) := by rw [HR.out]; simp [valR, cat]
      have HF : Hid (Wst W0 B w5 b (wap s R)) := by
        show Wst _ _ _ _ _
        rw [e9]
        exact Wst.base (Wst.base hw5 HKQ.out) HKP.out
      clear e9
      clear hw5 K4
      go_wp2_with fail
      exact ⟨rfl, _, results_none rfl _ _ _, rfl, HF.out⟩
    by_cases h5 : n = 5
    · subst h5
      have K4 := hide (number_any W0 _ w3 b _ a HW3.out HX.out.1)
      clear k1 hn6
      go_wp2_with fail
      refine K4.out.mono ?_
      rintro e w5 ⟨rfl, hw5⟩
      rw [wap_cat] at hw5
      have e9 : R = (cat (some [5]) (some (cnt (zig a)))) := by rw [HR.out]; simp [valR, cat]
      have HF : Hid (Wst W0 B w5 b (wap s R)) := by
        show Wst _ _ _ _ _
        rw [e9]
        exact Wst.base (Wst.base hw5 HKQ.out) HKP.out
      clear e9
      clear hw5 K4
      go_wp2_with fail
      exact ⟨rfl, _, results_none rfl _ _ _, rfl, HF.out⟩
    by_cases h6 : n = 6
    · subst h6
      have K4 := hide (number_any W0 _ w3 b _ a HW3.out HX.out.1)
      clear k1 hn6
      go_wp2_with fail
      refine K4.out.mono ?_
      rintro e w5 ⟨rfl, hw5⟩
      rw [wap_cat] at hw5
      have e9 : R = (cat (some [6]) (some (cnt (zig a)))) := by rw [HR.out]; simp [valR, cat]
      have HF : Hid (Wst W0 B w5 b (wap s R)) := by
        show Wst _ _ _ _ _
        rw [e9]
        exact Wst.base (Wst.base hw5 HKQ.out) HKP.out
      clear e9
      clear hw5 K4
      go_wp2_with fail
      exact ⟨rfl, _, results_none rfl _ _ _, rfl, HF.out⟩
    by_cases h3 : n = 3
    · subst h3
      have K4 := hide (number_any W0 _ w3 b _ a HW3.out HX.out.1)
      clear k1 hn6
      go_wp2_with fail
      refine K4.out.mono ?_
      rintro e w5 ⟨rfl, hw5⟩
      have hc5 := (hw5.k.blk HB1.out (by decide) (by decide)).cell
      have K5 := hide (number_any W0 _ w5 b _ c hw5 HX.out.2.1)
      clear hw5 K4
      go_wp2_with fail
      refine K5.out.mono ?_
      rintro e w6 ⟨rfl, hw6⟩
      rw [wap_cat, wap_cat] at hw6
      have e9 : R = (cat (some [3]) (cat (some (cnt (zig a))) (some (cnt (zig c))))) := by rw [HR.out]; simp [valR, cat]
      have HF : Hid (Wst W0 B w6 b (wap s R)) := by
        show Wst _ _ _ _ _
        rw [e9]
        exact Wst.base (Wst.base hw6 HKQ.out) HKP.out
      clear e9
      clear hw6 K5
      go_wp2_with fail
      exact ⟨rfl, _, results_none rfl _ _ _, rfl, HF.out⟩
    by_cases h4 : n = 4
    · subst h4
      have K4 := hide (text_any W0 _ w3 b _ t HW3.out HX.out.2.2)
      clear k1 hn6
      go_wp2_with fail
      refine K4.out.mono ?_
      rintro e w5 ⟨rfl, hw5⟩
      rw [wap_cat] at hw5
      have e9 : R = (cat (some [4]) (some (cnt t.size ++ bys t))) := by rw [HR.out]; simp [valR, cat]
      have HF : Hid (Wst W0 B w5 b (wap s R)) := by
        show Wst _ _ _ _ _
        rw [e9]
        exact Wst.base (Wst.base hw5 HKQ.out) HKP.out
      clear e9
      clear hw5 K4
      go_wp2_with fail
      exact ⟨rfl, _, results_none rfl _ _ _, rfl, HF.out⟩
    have h0 : n = 0 := by omega
    subst h0
    have e9 : R = some [0] := by rw [HR.out]; simp [valR]
    have HF : Hid (Wst W0 B w3 b (wap s R)) := by
      show Wst _ _ _ _ _
      rw [e9]
      exact (HW3.out.base HKQ.out).base HKP.out
    clear e9
    clear k1 hn6 h1 h2 h5 h6 h3 h4
    go_wp2_with fail
    exact ⟨rfl, _, results_none rfl _ _ _, rfl, HF.out⟩
set_option maxRecDepth 100000 in
set_option maxHeartbeats 1000000 in
theorem prop_any (W0 B w : World) (b : Nat) (s : Option (List Nat)) (x : Pr) (h : Wst W0 B w b s) (hx : PrW x) (hT : Tabs W0) :
    Calls Tryz.prog 89 #[ptr b, .agg #[.string x.key, I x.v.k, I x.v.a, I x.v.b, .string x.v.s]] w fun e w' => e = .returned (.tuple #[]) ∧ Wst W0 B w' b (wap s (prF x)) := by
  have hA := (G.refl w).alloc (.cells #[.string x.key, I x.v.k, I x.v.a, I x.v.b, .string x.v.s] 156)
  have hB := Blk.new w [.string x.key, I x.v.k, I x.v.a, I x.v.b, .string x.v.s] 156
  have hh := (h.G hA).rebase
  have HKP := hide hh.2
  have HB := hide hB
  have Hhx := hide hx
  have HhT := hide hT
  have K1 := hide (text_any W0 _ _ b _ x.key hh.1 Hhx.out.1)
  have hc := hB.cell
  clear h hB hA hh hx hT
  go_enter Tryz.func89, Tryz.ntmps89
  go_wp2_with fail
  generalize w.alloc (.cells #[.string x.key, I x.v.k, I x.v.a, I x.v.b, .string x.v.s] 156) = wA at HB HKP K1 hc ⊢
  refine K1.out.mono ?_
  rintro e w1 ⟨rfl, hw1⟩
  have hb1 := hw1.k.blk HB.out (by decide) (by decide)
  have K2 := hide (value_any W0 _ w1 b _ x.v hw1 Hhx.out.2 HhT.out)
  have hc1 := hb1.cell
  clear hw1 hb1 K1 hc
  go_wp2_with fail
  refine K2.out.mono ?_
  rintro e w2 ⟨rfl, hw2⟩
  rw [wap_cat] at hw2
  have HF : Hid (Wst W0 B w2 b (wap s (prF x))) := hw2.base HKP.out
  clear hw2 K2
  go_wp2_with fail
  exact ⟨rfl, _, results_none rfl _ _ _, rfl, HF.out⟩
set_option maxRecDepth 100000 in
set_option maxHeartbeats 1000000 in
theorem putS_any (W0 B w : World) (b : Nat) (s : Option (List Nat)) (v : Value) (l : List (ByteArray)) (h : Wst W0 B w b s) (hv : Row eS.rel W0 v l) (hq : ∀ x ∈ l, x.size ≤ 140737488351232) (hn : l.length ≤ 140737488351232) :
    Calls Tryz.prog 59 #[ptr b, v, .func (.func 50) #[] #[]] w fun e w' => e = .returned (.tuple #[]) ∧ Wst W0 B w' b (wap s (cat (some (cnt l.length)) (catL txtF l))) := by
  obtain ⟨p, cap, rfl⟩ := hv.form
  have KC := hide (count_any W0 B w b s l.length h (by omega))
  have HS := hide hv
  have HQ := hide hq
  have HN := hide hn
  clear h hv hq
  go_enter Tryz.func59, Tryz.ntmps59
  go_wp2_with fail
  refine KC.out.mono ?_
  rintro e w1 ⟨rfl, h1⟩
  have H1 := hide h1
  clear h1 KC
  go_wp2_with fail
  go_loopw [15] (fun iv wr => ∃ i : Nat, iv = I i ∧ i ≤ l.length ∧ Wst W0 B wr b (wap s (cat (some (cnt l.length)) (catL txtF (l.take i))))) (fun iv _ => l.length - (RowKit.intOf iv).toNat)
  case atStart => exact ⟨0, rfl, Nat.zero_le _, by rw [List.take_zero, catL, cat_nil]; exact H1.out⟩
  case round =>
    obtain ⟨i, rfl, hik, hw⟩ := hrel
    clear H1
    by_cases hil : i < l.length
    · obtain ⟨x, hx⟩ : ∃ x, l[i]? = some x := ⟨_, List.getElem?_eq_getElem hil⟩
      obtain ⟨g, o, cap', q⟩ := HS.out.addr (by omega)
      injection q with q1 q2 q3
      subst q1 q3
      have hrow := HS.out.G hw.g
      have hxq := HQ.out x (List.mem_of_getElem? hx)
      have x1 := RS.at hrow hx
      have i1 : (i : Int) < l.length := Int.ofNat_lt.2 hil
      have HW : Hid (wrap64 ((i : Int) + 1) = (i : Int) + 1) := by show _ = _; have := HN.out; unfold wrap64; omega
      have HIL := hide hil
      have e1 : catL txtF (l.take (i + 1)) = cat (catL txtF (l.take i)) (txtF x) := catL_snoc txtF l i x hx
      obtain ⟨s1, hs1⟩ : ∃ s1, s1 = wap s (cat (some (cnt l.length)) (catL txtF (l.take i))) := ⟨_, rfl⟩
      rw [← hs1] at hw
      cases s1 with
      | none =>
        obtain ⟨l1, hw1⟩ := hw
        obtain ⟨_, _, _, ⟨v1, hB, _, _⟩, _⟩ := id hw1
        have hc := hB.cell
        have HF : Hid (Wst W0 B wr b (wap s (cat (some (cnt l.length)) (catL txtF l)))) := by
          show Wst _ _ _ _ _
          rw [wap_rest s txtF (cnt l.length) l i, ← hs1]
          exact ⟨l1, hw1⟩
        clear hw1 hB hik hil hx q2 e1 hs1 hxq hrow
        go_wp2_with fail
        exact ⟨rfl, _, results_none rfl _ _ _, rfl, HF.out⟩
      | some l1 =>
        obtain ⟨_, _, _, ⟨v1, hB, _, _⟩, _⟩ := id hw
        have hc := hB.cell
        have KP := hide (text_any W0 B wr b (some l1) x hw hxq)
        have HE : Hid (wap s (cat (some (cnt l.length)) (catL txtF (l.take (i + 1)))) = wap (some l1) (txtF x)) := by show _ = _; rw [e1, hs1, wap_cat, cat_assoc]
        clear hw hB hik hil hx q2 e1 hs1 hxq hrow
        go_wp2_with fail
        refine KP.out.mono ?_
        rintro e w3 ⟨rfl, hw3⟩
        have hw4 : Wst W0 B w3 b (wap (some l1) (txtF x)) := hw3
        rw [← HE.out] at hw4
        have HW3 := hide hw4
        clear hw3 hw4 KP
        go_wp2_with fail
        try rw [HW.out]
        refine ⟨⟨i + 1, rfl, HIL.out, HW3.out⟩, ?_⟩
        simp only [RowKit.intOf]; have := HIL.out; omega
    · have i1 : ¬ ((i : Int) < l.length) := by omega
      have e1 : l.take i = l := List.take_of_length_le (by omega)
      rw [e1] at hw
      have HW := hide hw
      clear hik hil hw e1
      go_wp2_with fail
      exact ⟨rfl, _, results_none rfl _ _ _, rfl, HW.out⟩
set_option maxRecDepth 100000 in
set_option maxHeartbeats 1000000 in
theorem putV_any (W0 B w : World) (b : Nat) (s : Option (List Nat)) (v : Value) (l : List (Vl)) (h : Wst W0 B w b s) (hv : Row eV.rel W0 v l) (hq : ∀ x ∈ l, VlW x) (hn : l.length ≤ 140737488351232) (hT : Tabs W0) :
    Calls Tryz.prog 96 #[ptr b, v, .func (.func 97) #[] #[]] w fun e w' => e = .returned (.tuple #[]) ∧ Wst W0 B w' b (wap s (cat (some (cnt l.length)) (catL valF l))) := by
  obtain ⟨p, cap, rfl⟩ := hv.form
  have KC := hide (count_any W0 B w b s l.length h (by omega))
  have HS := hide hv
  have HQ := hide hq
  have HN := hide hn
  have HhT := hide hT
  clear h hv hq hT
  go_enter Tryz.func96, Tryz.ntmps96
  go_wp2_with fail
  refine KC.out.mono ?_
  rintro e w1 ⟨rfl, h1⟩
  have H1 := hide h1
  clear h1 KC
  go_wp2_with fail
  go_loopw [15] (fun iv wr => ∃ i : Nat, iv = I i ∧ i ≤ l.length ∧ Wst W0 B wr b (wap s (cat (some (cnt l.length)) (catL valF (l.take i))))) (fun iv _ => l.length - (RowKit.intOf iv).toNat)
  case atStart => exact ⟨0, rfl, Nat.zero_le _, by rw [List.take_zero, catL, cat_nil]; exact H1.out⟩
  case round =>
    obtain ⟨i, rfl, hik, hw⟩ := hrel
    clear H1
    by_cases hil : i < l.length
    · obtain ⟨x, hx⟩ : ∃ x, l[i]? = some x := ⟨_, List.getElem?_eq_getElem hil⟩
      obtain ⟨g, o, cap', q⟩ := HS.out.addr (by omega)
      injection q with q1 q2 q3
      subst q1 q3
      have hrow := HS.out.G hw.g
      have hxq := HQ.out x (List.mem_of_getElem? hx)
      obtain ⟨x1, x2, x3, x4⟩ := RV.at hrow hx
      have i1 : (i : Int) < l.length := Int.ofNat_lt.2 hil
      have HW : Hid (wrap64 ((i : Int) + 1) = (i : Int) + 1) := by show _ = _; have := HN.out; unfold wrap64; omega
      have HIL := hide hil
      have e1 : catL valF (l.take (i + 1)) = cat (catL valF (l.take i)) (valF x) := catL_snoc valF l i x hx
      obtain ⟨s1, hs1⟩ : ∃ s1, s1 = wap s (cat (some (cnt l.length)) (catL valF (l.take i))) := ⟨_, rfl⟩
      rw [← hs1] at hw
      cases s1 with
      | none =>
        obtain ⟨l1, hw1⟩ := hw
        obtain ⟨_, _, _, ⟨v1, hB, _, _⟩, _⟩ := id hw1
        have hA9 := (G.refl wr).alloc (.cells #[I x.k, I x.a, I x.b, .string x.s] 137)
        have hc := (hB.G hA9).cell
        have HF : Hid (Wst W0 B (wr.alloc (.cells #[I x.k, I x.a, I x.b, .string x.s] 137)) b (wap s (cat (some (cnt l.length)) (catL valF l)))) := by
          show Wst _ _ _ _ _
          rw [wap_rest s valF (cnt l.length) l i, ← hs1]
          exact ⟨l1, hw1.G hA9⟩
        clear hw1 hB hik hil hx q2 e1 hs1 hxq hrow hA9
        go_wp2_with fail
        exact ⟨rfl, _, results_none rfl _ _ _, rfl, HF.out⟩
      | some l1 =>
        obtain ⟨_, _, _, ⟨v1, hB, _, _⟩, _⟩ := id hw
        have hA9 := (G.refl wr).alloc (.cells #[I x.k, I x.a, I x.b, .string x.s] 137)
        have hc := (hB.G hA9).cell
        have KP := hide (value_any W0 B _ b (some l1) x (hw.G hA9) hxq HhT.out)
        have HE : Hid (wap s (cat (some (cnt l.length)) (catL valF (l.take (i + 1)))) = wap (some l1) (valF x)) := by show _ = _; rw [e1, hs1, wap_cat, cat_assoc]
        clear hw hB hik hil hx q2 e1 hs1 hxq hrow hA9
        go_wp2_with fail
        refine KP.out.mono ?_
        rintro e w3 ⟨rfl, hw3⟩
        have hw4 : Wst W0 B w3 b (wap (some l1) (valF x)) := hw3
        rw [← HE.out] at hw4
        have HW3 := hide hw4
        clear hw3 hw4 KP
        go_wp2_with fail
        try rw [HW.out]
        refine ⟨⟨i + 1, rfl, HIL.out, HW3.out⟩, ?_⟩
        simp only [RowKit.intOf]; have := HIL.out; omega
    · have i1 : ¬ ((i : Int) < l.length) := by omega
      have e1 : l.take i = l := List.take_of_length_le (by omega)
      rw [e1] at hw
      have HW := hide hw
      clear hik hil hw e1
      go_wp2_with fail
      exact ⟨rfl, _, results_none rfl _ _ _, rfl, HW.out⟩
set_option maxRecDepth 100000 in
set_option maxHeartbeats 1000000 in
theorem putP_any (W0 B w : World) (b : Nat) (s : Option (List Nat)) (v : Value) (l : List (Pr)) (h : Wst W0 B w b s) (hv : Row ePr.rel W0 v l) (hq : ∀ x ∈ l, PrW x) (hn : l.length ≤ 140737488351232) (hT : Tabs W0) :
    Calls Tryz.prog 88 #[ptr b, v, .func (.func 89) #[] #[]] w fun e w' => e = .returned (.tuple #[]) ∧ Wst W0 B w' b (wap s (cat (some (cnt l.length)) (catL prF l))) := by
  obtain ⟨p, cap, rfl⟩ := hv.form
  have KC := hide (count_any W0 B w b s l.length h (by omega))
  have HS := hide hv
  have HQ := hide hq
  have HN := hide hn
  have HhT := hide hT
  clear h hv hq hT
  go_enter Tryz.func88, Tryz.ntmps88
  go_wp2_with fail
  refine KC.out.mono ?_
  rintro e w1 ⟨rfl, h1⟩
  have H1 := hide h1
  clear h1 KC
  go_wp2_with fail
  go_loopw [15] (fun iv wr => ∃ i : Nat, iv = I i ∧ i ≤ l.length ∧ Wst W0 B wr b (wap s (cat (some (cnt l.length)) (catL prF (l.take i))))) (fun iv _ => l.length - (RowKit.intOf iv).toNat)
  case atStart => exact ⟨0, rfl, Nat.zero_le _, by rw [List.take_zero, catL, cat_nil]; exact H1.out⟩
  case round =>
    obtain ⟨i, rfl, hik, hw⟩ := hrel
    clear H1
    by_cases hil : i < l.length
    · obtain ⟨x, hx⟩ : ∃ x, l[i]? = some x := ⟨_, List.getElem?_eq_getElem hil⟩
      obtain ⟨g, o, cap', q⟩ := HS.out.addr (by omega)
      injection q with q1 q2 q3
      subst q1 q3
      have hrow := HS.out.G hw.g
      have hxq := HQ.out x (List.mem_of_getElem? hx)
      obtain ⟨x1, x2, x3, x4, x5⟩ := RP.at hrow hx
      have i1 : (i : Int) < l.length := Int.ofNat_lt.2 hil
      have HW : Hid (wrap64 ((i : Int) + 1) = (i : Int) + 1) := by show _ = _; have := HN.out; unfold wrap64; omega
      have HIL := hide hil
      have e1 : catL prF (l.take (i + 1)) = cat (catL prF (l.take i)) (prF x) := catL_snoc prF l i x hx
      obtain ⟨s1, hs1⟩ : ∃ s1, s1 = wap s (cat (some (cnt l.length)) (catL prF (l.take i))) := ⟨_, rfl⟩
      rw [← hs1] at hw
      cases s1 with
      | none =>
        obtain ⟨l1, hw1⟩ := hw
        obtain ⟨_, _, _, ⟨v1, hB, _, _⟩, _⟩ := id hw1
        have hA9 := (G.refl wr).alloc (.cells #[.string x.key, I x.v.k, I x.v.a, I x.v.b, .string x.v.s] 156)
        have hc := (hB.G hA9).cell
        have HF : Hid (Wst W0 B (wr.alloc (.cells #[.string x.key, I x.v.k, I x.v.a, I x.v.b, .string x.v.s] 156)) b (wap s (cat (some (cnt l.length)) (catL prF l)))) := by
          show Wst _ _ _ _ _
          rw [wap_rest s prF (cnt l.length) l i, ← hs1]
          exact ⟨l1, hw1.G hA9⟩
        clear hw1 hB hik hil hx q2 e1 hs1 hxq hrow hA9
        go_wp2_with fail
        exact ⟨rfl, _, results_none rfl _ _ _, rfl, HF.out⟩
      | some l1 =>
        obtain ⟨_, _, _, ⟨v1, hB, _, _⟩, _⟩ := id hw
        have hA9 := (G.refl wr).alloc (.cells #[.string x.key, I x.v.k, I x.v.a, I x.v.b, .string x.v.s] 156)
        have hc := (hB.G hA9).cell
        have KP := hide (prop_any W0 B _ b (some l1) x (hw.G hA9) hxq HhT.out)
        have HE : Hid (wap s (cat (some (cnt l.length)) (catL prF (l.take (i + 1)))) = wap (some l1) (prF x)) := by show _ = _; rw [e1, hs1, wap_cat, cat_assoc]
        clear hw hB hik hil hx q2 e1 hs1 hxq hrow hA9
        go_wp2_with fail
        refine KP.out.mono ?_
        rintro e w3 ⟨rfl, hw3⟩
        have hw4 : Wst W0 B w3 b (wap (some l1) (prF x)) := hw3
        rw [← HE.out] at hw4
        have HW3 := hide hw4
        clear hw3 hw4 KP
        go_wp2_with fail
        try rw [HW.out]
        refine ⟨⟨i + 1, rfl, HIL.out, HW3.out⟩, ?_⟩
        simp only [RowKit.intOf]; have := HIL.out; omega
    · have i1 : ¬ ((i : Int) < l.length) := by omega
      have e1 : l.take i = l := List.take_of_length_le (by omega)
      rw [e1] at hw
      have HW := hide hw
      clear hik hil hw e1
      go_wp2_with fail
      exact ⟨rfl, _, results_none rfl _ _ _, rfl, HW.out⟩
set_option maxRecDepth 100000 in
set_option maxHeartbeats 1000000 in
theorem row_any (W0 B w : World) (b : Nat) (s : Option (List Nat)) (v : Value) (l : List Vl) (h : Wst W0 B w b s) (hv : Row eV.rel W0 v l) (hl : RwW l) (hT : Tabs W0) :
    Calls Tryz.prog 87 #[ptr b, v] w fun e w' => e = .returned (.tuple #[]) ∧ Wst W0 B w' b (wap s (lstF valF l)) := by
  have KV := hide (putV_any W0 B w b s v l h hv hl.2 hl.1 hT)
  obtain ⟨p, cap, rfl⟩ := hv.form
  clear h hv hl hT
  go_enter Tryz.func87, Tryz.ntmps87
  go_wp2_with fail
  refine KV.out.mono ?_
  rintro e w1 ⟨rfl, hw1⟩
  have HF := hide hw1
  clear hw1 KV
  go_wp2_with fail
  exact ⟨rfl, _, results_none rfl _ _ _, rfl, HF.out⟩
set_option maxRecDepth 100000 in
set_option maxHeartbeats 1000000 in
theorem putR_any (W0 B w : World) (b : Nat) (s : Option (List Nat)) (v : Value) (l : List (List Vl)) (h : Wst W0 B w b s) (hv : Row rVl W0 v l) (hq : ∀ x ∈ l, RwW x) (hn : l.length ≤ 140737488351232) (hT : Tabs W0) :
    Calls Tryz.prog 86 #[ptr b, v, .func (.func 87) #[] #[]] w fun e w' => e = .returned (.tuple #[]) ∧ Wst W0 B w' b (wap s (cat (some (cnt l.length)) (catL (lstF valF) l))) := by
  obtain ⟨p, cap, rfl⟩ := hv.form
  have KC := hide (count_any W0 B w b s l.length h (by omega))
  have HS := hide hv
  have HQ := hide hq
  have HN := hide hn
  have HhT := hide hT
  clear h hv hq hT
  go_enter Tryz.func86, Tryz.ntmps86
  go_wp2_with fail
  refine KC.out.mono ?_
  rintro e w1 ⟨rfl, h1⟩
  have H1 := hide h1
  clear h1 KC
  go_wp2_with fail
  go_loopw [15] (fun iv wr => ∃ i : Nat, iv = I i ∧ i ≤ l.length ∧ Wst W0 B wr b (wap s (cat (some (cnt l.length)) (catL (lstF valF) (l.take i))))) (fun iv _ => l.length - (RowKit.intOf iv).toNat)
  case atStart => exact ⟨0, rfl, Nat.zero_le _, by rw [List.take_zero, catL, cat_nil]; exact H1.out⟩
  case round =>
    obtain ⟨i, rfl, hik, hw⟩ := hrel
    clear H1
    by_cases hil : i < l.length
    · obtain ⟨x, hx⟩ : ∃ x, l[i]? = some x := ⟨_, List.getElem?_eq_getElem hil⟩
      obtain ⟨g, o, cap', q⟩ := HS.out.addr (by omega)
      injection q with q1 q2 q3
      subst q1 q3
      have hrow := HS.out.G hw.g
      have hxq := HQ.out x (List.mem_of_getElem? hx)
      obtain ⟨cs, ⟨vy, hcs, hvy, hly⟩, hr1⟩ := HS.out.at hx
      subst hcs
      have x1 : wr.cell? ⟨g, o + i, none⟩ = some vy := by have := rangeAt_G hr1 hw.g 0 _ rfl; simpa using this
      have i1 : (i : Int) < l.length := Int.ofNat_lt.2 hil
      have HW : Hid (wrap64 ((i : Int) + 1) = (i : Int) + 1) := by show _ = _; have := HN.out; unfold wrap64; omega
      have HIL := hide hil
      obtain ⟨py, cy, hpy⟩ := hvy.form
      have e1 : catL (lstF valF) (l.take (i + 1)) = cat (catL (lstF valF) (l.take i)) ((lstF valF) x) := catL_snoc (lstF valF) l i x hx
      obtain ⟨s1, hs1⟩ : ∃ s1, s1 = wap s (cat (some (cnt l.length)) (catL (lstF valF) (l.take i))) := ⟨_, rfl⟩
      rw [← hs1] at hw
      cases s1 with
      | none =>
        obtain ⟨l1, hw1⟩ := hw
        obtain ⟨_, _, _, ⟨v1, hB, _, _⟩, _⟩ := id hw1
        have hc := hB.cell
        have HF : Hid (Wst W0 B wr b (wap s (cat (some (cnt l.length)) (catL (lstF valF) l)))) := by
          show Wst _ _ _ _ _
          rw [wap_rest s (lstF valF) (cnt l.length) l i, ← hs1]
          exact ⟨l1, hw1⟩
        clear hw1 hB hik hil hx q2 e1 hs1 hxq hrow hr1 hvy hly
        subst hpy
        go_wp2_with fail
        exact ⟨rfl, _, results_none rfl _ _ _, rfl, HF.out⟩
      | some l1 =>
        obtain ⟨_, _, _, ⟨v1, hB, _, _⟩, _⟩ := id hw
        have hc := hB.cell
        have KP := hide (row_any W0 B wr b (some l1) vy x hw hvy hxq HhT.out)
        clear hr1 hvy hly
        subst hpy
        have HE : Hid (wap s (cat (some (cnt l.length)) (catL (lstF valF) (l.take (i + 1)))) = wap (some l1) ((lstF valF) x)) := by show _ = _; rw [e1, hs1, wap_cat, cat_assoc]
        clear hw hB hik hil hx q2 e1 hs1 hxq hrow
        go_wp2_with fail
        refine KP.out.mono ?_
        rintro e w3 ⟨rfl, hw3⟩
        have hw4 : Wst W0 B w3 b (wap (some l1) ((lstF valF) x)) := hw3
        rw [← HE.out] at hw4
        have HW3 := hide hw4
        clear hw3 hw4 KP
        go_wp2_with fail
        try rw [HW.out]
        refine ⟨⟨i + 1, rfl, HIL.out, HW3.out⟩, ?_⟩
        simp only [RowKit.intOf]; have := HIL.out; omega
    · have i1 : ¬ ((i : Int) < l.length) := by omega
      have e1 : l.take i = l := List.take_of_length_le (by omega)
      rw [e1] at hw
      have HW := hide hw
      clear hik hil hw e1
      go_wp2_with fail
      exact ⟨rfl, _, results_none rfl _ _ _, rfl, HW.out⟩
set_option maxRecDepth 100000 in
set_option maxHeartbeats 1000000 in
theorem node_any (W0 B w : World) (b : Nat) (s : Option (List Nat)) (x : Nd) (v : Value) (hv : Row ePr.rel W0 v x.ps) (h : Wst W0 B w b s) (hx : NdW x) (hT : Tabs W0) :
    Calls Tryz.prog 63 #[ptr b, .agg #[I x.id, .string x.lb, v]] w fun e w' => e = .returned (.tuple #[]) ∧ Wst W0 B w' b (wap s (ndF x)) := by
  have KPS := hv
  obtain ⟨pp, pc9, rfl⟩ := hv.form
  have KPV := hide KPS
  clear hv KPS
  have hA := (G.refl w).alloc (.cells #[I x.id, .string x.lb, .slice pp x.ps.length pc9] 114)
  have hB := Blk.new w [I x.id, .string x.lb, .slice pp x.ps.length pc9] 114
  have hh := (h.G hA).rebase
  have HKP := hide hh.2
  have HB := hide hB
  have Hhx := hide hx
  have HhT := hide hT
  have K1 := hide (number_any W0 _ _ b _ x.id hh.1 Hhx.out.1)
  have hc := hB.cell
  clear h hB hA hh hx hT
  go_enter Tryz.func63, Tryz.ntmps63
  go_wp2_with fail
  generalize w.alloc (.cells #[I x.id, .string x.lb, .slice pp x.ps.length pc9] 114) = wA at HB HKP K1 hc ⊢
  refine K1.out.mono ?_
  rintro e w1 ⟨rfl, hw1⟩
  have hb1 := hw1.k.blk HB.out (by decide) (by decide)
  have K2 := hide (text_any W0 _ w1 b _ x.lb hw1 Hhx.out.2.1)
  have hc1 := hb1.cell
  clear hw1 hb1 K1 hc
  go_wp2_with fail
  refine K2.out.mono ?_
  rintro e w2 ⟨rfl, hw2⟩
  have hb2 := hw2.k.blk HB.out (by decide) (by decide)
  have K3 := hide (putP_any W0 _ w2 b _ _ x.ps hw2 KPV.out Hhx.out.2.2.2 Hhx.out.2.2.1 HhT.out)
  have hc2 := hb2.cell
  clear hw2 hb2 K2 hc1
  go_wp2_with fail
  refine K3.out.mono ?_
  rintro e w3 ⟨rfl, hw3⟩
  rw [wap_cat] at hw3
  rw [wap_cat] at hw3
  have HF : Hid (Wst W0 B w3 b (wap s (ndF x))) := hw3.base HKP.out
  clear hw3 K3
  go_wp2_with fail
  exact ⟨rfl, _, results_none rfl _ _ _, rfl, HF.out⟩
set_option maxRecDepth 100000 in
set_option maxHeartbeats 1000000 in
theorem edge_any (W0 B w : World) (b : Nat) (s : Option (List Nat)) (x : Ed) (v : Value) (hv : Row ePr.rel W0 v x.ps) (h : Wst W0 B w b s) (hx : EdW x) (hT : Tabs W0) :
    Calls Tryz.prog 65 #[ptr b, .agg #[I x.id, .string x.ty, I x.fr, I x.dst, v]] w fun e w' => e = .returned (.tuple #[]) ∧ Wst W0 B w' b (wap s (edF x)) := by
  have KPS := hv
  obtain ⟨pp, pc9, rfl⟩ := hv.form
  have KPV := hide KPS
  clear hv KPS
  have hA := (G.refl w).alloc (.cells #[I x.id, .string x.ty, I x.fr, I x.dst, .slice pp x.ps.length pc9] 119)
  have hB := Blk.new w [I x.id, .string x.ty, I x.fr, I x.dst, .slice pp x.ps.length pc9] 119
  have hh := (h.G hA).rebase
  have HKP := hide hh.2
  have HB := hide hB
  have Hhx := hide hx
  have HhT := hide hT
  have K1 := hide (number_any W0 _ _ b _ x.id hh.1 Hhx.out.1)
  have hc := hB.cell
  clear h hB hA hh hx hT
  go_enter Tryz.func65, Tryz.ntmps65
  go_wp2_with fail
  generalize w.alloc (.cells #[I x.id, .string x.ty, I x.fr, I x.dst, .slice pp x.ps.length pc9] 119) = wA at HB HKP K1 hc ⊢
  refine K1.out.mono ?_
  rintro e w1 ⟨rfl, hw1⟩
  have hb1 := hw1.k.blk HB.out (by decide) (by decide)
  have K2 := hide (text_any W0 _ w1 b _ x.ty hw1 Hhx.out.2.1)
  have hc1 := hb1.cell
  clear hw1 hb1 K1 hc
  go_wp2_with fail
  refine K2.out.mono ?_
  rintro e w2 ⟨rfl, hw2⟩
  have hb2 := hw2.k.blk HB.out (by decide) (by decide)
  have K3 := hide (number_any W0 _ w2 b _ x.fr hw2 Hhx.out.2.2.1)
  have hc2 := hb2.cell
  clear hw2 hb2 K2 hc1
  go_wp2_with fail
  refine K3.out.mono ?_
  rintro e w3 ⟨rfl, hw3⟩
  have hb3 := hw3.k.blk HB.out (by decide) (by decide)
  have K4 := hide (number_any W0 _ w3 b _ x.dst hw3 Hhx.out.2.2.2.1)
  have hc3 := hb3.cell
  clear hw3 hb3 K3 hc2
  go_wp2_with fail
  refine K4.out.mono ?_
  rintro e w4 ⟨rfl, hw4⟩
  have hb4 := hw4.k.blk HB.out (by decide) (by decide)
  have K5 := hide (putP_any W0 _ w4 b _ _ x.ps hw4 KPV.out Hhx.out.2.2.2.2.2 Hhx.out.2.2.2.2.1 HhT.out)
  have hc4 := hb4.cell
  clear hw4 hb4 K4 hc3
  go_wp2_with fail
  refine K5.out.mono ?_
  rintro e w5 ⟨rfl, hw5⟩
  rw [wap_cat] at hw5
  rw [wap_cat] at hw5
  rw [wap_cat] at hw5
  rw [wap_cat] at hw5
  have HF : Hid (Wst W0 B w5 b (wap s (edF x))) := hw5.base HKP.out
  clear hw5 K5
  go_wp2_with fail
  exact ⟨rfl, _, results_none rfl _ _ _, rfl, HF.out⟩
set_option maxRecDepth 100000 in
set_option maxHeartbeats 1000000 in
theorem table_any (W0 B w : World) (b : Nat) (s : Option (List Nat)) (x : Tb) (u v : Value) (hu : Row eS.rel W0 u x.cols) (hv : Row rVl W0 v x.rows) (h : Wst W0 B w b s) (hx : TbW x) (hT : Tabs W0) :
    Calls Tryz.prog 61 #[ptr b, .agg #[u, v, I x.made, I x.gone, I x.set]] w fun e w' => e = .returned (.tuple #[]) ∧ Wst W0 B w' b (wap s (tbF x)) := by
  have KPS := And.intro hu hv
  obtain ⟨ca, cc, rfl⟩ := hu.form
  obtain ⟨ra, rc, rfl⟩ := hv.form
  have KPV := hide KPS
  clear hu hv KPS
  have hA := (G.refl w).alloc (.cells #[.slice ca x.cols.length cc, .slice ra x.rows.length rc, I x.made, I x.gone, I x.set] 74)
  have hB := Blk.new w [.slice ca x.cols.length cc, .slice ra x.rows.length rc, I x.made, I x.gone, I x.set] 74
  have hh := (h.G hA).rebase
  have HKP := hide hh.2
  have HB := hide hB
  have Hhx := hide hx
  have HhT := hide hT
  have K1 := hide (putS_any W0 _ _ b _ _ x.cols hh.1 KPV.out.1 Hhx.out.2.1 Hhx.out.1)
  have hc := hB.cell
  clear h hB hA hh hx hT
  go_enter Tryz.func61, Tryz.ntmps61
  go_wp2_with fail
  generalize w.alloc (.cells #[.slice ca x.cols.length cc, .slice ra x.rows.length rc, I x.made, I x.gone, I x.set] 74) = wA at HB HKP K1 hc ⊢
  refine K1.out.mono ?_
  rintro e w1 ⟨rfl, hw1⟩
  have hb1 := hw1.k.blk HB.out (by decide) (by decide)
  have K2 := hide (putR_any W0 _ w1 b _ _ x.rows hw1 KPV.out.2 Hhx.out.2.2.2.1 Hhx.out.2.2.1 HhT.out)
  have hc1 := hb1.cell
  clear hw1 hb1 K1 hc
  go_wp2_with fail
  refine K2.out.mono ?_
  rintro e w2 ⟨rfl, hw2⟩
  have hb2 := hw2.k.blk HB.out (by decide) (by decide)
  have K3 := hide (number_any W0 _ w2 b _ x.made hw2 Hhx.out.2.2.2.2.1)
  have hc2 := hb2.cell
  clear hw2 hb2 K2 hc1
  go_wp2_with fail
  refine K3.out.mono ?_
  rintro e w3 ⟨rfl, hw3⟩
  have hb3 := hw3.k.blk HB.out (by decide) (by decide)
  have K4 := hide (number_any W0 _ w3 b _ x.gone hw3 Hhx.out.2.2.2.2.2.1)
  have hc3 := hb3.cell
  clear hw3 hb3 K3 hc2
  go_wp2_with fail
  refine K4.out.mono ?_
  rintro e w4 ⟨rfl, hw4⟩
  have hb4 := hw4.k.blk HB.out (by decide) (by decide)
  have K5 := hide (number_any W0 _ w4 b _ x.set hw4 Hhx.out.2.2.2.2.2.2)
  have hc4 := hb4.cell
  clear hw4 hb4 K4 hc3
  go_wp2_with fail
  refine K5.out.mono ?_
  rintro e w5 ⟨rfl, hw5⟩
  rw [wap_cat] at hw5
  rw [wap_cat] at hw5
  rw [wap_cat] at hw5
  rw [wap_cat] at hw5
  have HF : Hid (Wst W0 B w5 b (wap s (tbF x))) := hw5.base HKP.out
  clear hw5 K5
  go_wp2_with fail
  exact ⟨rfl, _, results_none rfl _ _ _, rfl, HF.out⟩
end Go.Proofs.YtcdjjmjhdoanlaaGreatDoor
