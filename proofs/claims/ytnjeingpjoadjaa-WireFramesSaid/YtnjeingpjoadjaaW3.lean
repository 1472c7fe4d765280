/- Wire: Frame, the program's and the document's. -/
import Derived.Test.YtnjeingpjoadjaaW2
namespace Go.Proofs.Ytnjeingpjoadjaa
open Go.RowKit

/-- What Frame answers. -/
def frC (k : Int) (n : Nat) : Nat := if k < 1 ∨ 255 < k then 162 else if 2097152 < n then 163 else 0
def frL (k : Int) (b : List Nat) : List Nat := if frC k b.length = 0 then frB k.toNat b else []
def FrP (k : Int) (b : List Nat) (W : World) (e : Ending) (W' : World) : Prop := ∃ v', e = .returned (.tuple #[v', I (frC k b.length)]) ∧ SwB W' v' (frL k b) ∧ G W W' ∧ Fresh W v'
theorem FrP.bad (k : Int) (b : List Nat) (W : World) (c : Nat) (h : frC k b.length = c) (hc : c ≠ 0) : FrP k b W (.returned (.tuple #[.slice none 0 0, I c])) W :=
  ⟨_, by rw [h], by rw [frL, h, if_neg hc]; exact Sw.nil _ _ _, G.refl _, Fresh.nil _⟩
theorem Row.sub {α : Type} {R : Rel α} {w : World} {g o n cap : Nat} {l : List α} (h : Row R w (.slice (some ⟨g, o, none⟩) n cap) l) (lo m : Nat) (hl : lo + m ≤ l.length) : Row R w (.slice (some ⟨g, o + lo * R.s, none⟩) m (cap - lo)) ((l.drop lo).take m) := by
  obtain ⟨p, c, e, hc, hn, hr⟩ := h
  cases e
  have hll : ((l.drop lo).take m).length = m := by simp; omega
  refine ⟨some ⟨g, o + lo * R.s, none⟩, cap - lo, by rw [hll], by rw [hll]; omega, (fun q => by cases q), fun i x hx => ?_⟩
  rw [List.getElem?_take] at hx
  split at hx
  · rw [List.getElem?_drop] at hx
    obtain ⟨g', o', cs, q, h2, h3⟩ := hr (lo + i) x hx
    cases q
    refine ⟨g, o + lo * R.s, cs, rfl, h2, ?_⟩
    rw [Nat.add_mul, ← Nat.add_assoc] at h3
    exact h3
  · cases hx
theorem Sw.lit {α : Type} {E : Enc α} {ty : TypeId} (w : World) (l : List α) (hm : l.length ≤ maxLen) : Sw E ty (w.alloc (.cells (E.fl l).toArray ty)) (.slice (some ⟨w.heap.size, 0, none⟩) l.length l.length) l :=
  .inr ⟨w.heap.size, l.length, [], rfl, by simpa using Blk.new w (E.fl l) ty, by simp, Nat.le_refl _, hm⟩
theorem Fresh.new (W : World) (n c : Nat) {w : World} (g : G W w) : Fresh W (.slice (some ⟨w.heap.size, 0, none⟩) n c) := fun k e => by simp [Value.ownBlock] at e; have := g.size; omega
set_option maxRecDepth 100000 in
set_option maxHeartbeats 1000000 in
theorem frame_any (k : Int) (b : List Nat) (v : Value) (W : World) (h : Rb W v b) (hb : By b) (hn : b.length ≤ 140737488355328) :
    Calls Try.prog 6 #[I k, v] W (FrP k b W) := by
  obtain ⟨p, cap, rfl⟩ := h.form
  by_cases c1 : k < 1
  · have HC : Hid (frC k b.length = 162) := by show _ = _; unfold frC; rw [if_pos (.inl c1)]
    have d1 := decide_eq_true c1
    have HF := hide (FrP.bad k b W 162 HC.out (by decide))
    clear h hb hn HC
    go_enter Try.func6, Try.ntmps6
    go_wp2_with fail
    go_ret2
    exact HF.out
  · have d1 := decide_eq_false c1
    by_cases c2 : 255 < k
    · have HC : Hid (frC k b.length = 162) := by show _ = _; unfold frC; rw [if_pos (.inr c2)]
      have d2 := decide_eq_true c2
      have HF := hide (FrP.bad k b W 162 HC.out (by decide))
      clear h hb hn HC
      go_enter Try.func6, Try.ntmps6
      go_wp2_with fail
      go_ret2
      exact HF.out
    · have d2 := decide_eq_false c2
      by_cases c3 : 2097152 < b.length
      · have HC : Hid (frC k b.length = 163) := by show _ = _; unfold frC; rw [if_neg (by omega), if_pos c3]
        have i3 : (2097152 : Int) < (b.length : Int) := by omega
        have HF := hide (FrP.bad k b W 163 HC.out (by decide))
        clear h hb hn HC c3
        go_enter Try.func6, Try.ntmps6
        go_wp2_with fail
        go_ret2
        exact HF.out
      · have HC : Hid (frC k b.length = 0) := by show _ = _; unfold frC; rw [if_neg (by omega), if_neg c3]
        have i3 : ¬ (2097152 : Int) < (b.length : Int) := by omega
        obtain ⟨kn, rfl⟩ : ∃ kn : Nat, k = kn := ⟨k.toNat, by omega⟩
        have hkb : kn < 256 := by omega
        have u1 : (kn : Int) % 256 = (kn : Int) := by omega
        have KF := hide (framed_any kn b _ W h hb hkb (by omega))
        have HL : Hid (frL (kn : Int) b = frB kn b) := by show _ = _; unfold frL; rw [if_pos HC.out]; rfl
        clear h hb hn c3 hkb
        go_enter Try.func6, Try.ntmps6
        go_wp2_with fail
        refine KF.out.mono ?_
        rintro e w1 ⟨v', rfl, hs, hg, hf⟩
        have HR := hide (And.intro hs (And.intro hg hf))
        clear hs hg hf KF
        go_wp2_with fail
        go_ret2
        exact ⟨_, by rw [HC.out]; rfl, by rw [HL.out]; exact HR.out.1, HR.out.2.1, HR.out.2.2⟩
set_option maxRecDepth 100000 in
set_option maxHeartbeats 1000000 in
theorem rframe_any (k : Int) (b : List Nat) (v : Value) (W : World) (h : Rb W v b) (hb : By b) (hn : b.length ≤ 140737488355328) :
    Calls Try.prog 7 #[I k, v] W (FrP k b W) := by
  obtain ⟨p, cap, rfl⟩ := h.form
  by_cases c1 : k < 1
  · have HC : Hid (frC k b.length = 162) := by show _ = _; unfold frC; rw [if_pos (.inl c1)]
    have d1 := decide_eq_true c1
    have HF := hide (FrP.bad k b W 162 HC.out (by decide))
    clear h hb hn HC
    go_enter Try.func7, Try.ntmps7
    go_wp2_with fail
    go_ret2
    exact HF.out
  · have d1 := decide_eq_false c1
    by_cases c2 : 255 < k
    · have HC : Hid (frC k b.length = 162) := by show _ = _; unfold frC; rw [if_pos (.inr c2)]
      have d2 := decide_eq_true c2
      have HF := hide (FrP.bad k b W 162 HC.out (by decide))
      clear h hb hn HC
      go_enter Try.func7, Try.ntmps7
      go_wp2_with fail
      go_ret2
      exact HF.out
    · have d2 := decide_eq_false c2
      by_cases c3 : 2097152 < b.length
      · have HC : Hid (frC k b.length = 163) := by show _ = _; unfold frC; rw [if_neg (by omega), if_pos c3]
        have i3 : (2097152 : Int) < (b.length : Int) := by omega
        have HF := hide (FrP.bad k b W 163 HC.out (by decide))
        clear h hb hn HC c3
        go_enter Try.func7, Try.ntmps7
        go_wp2_with fail
        go_ret2
        exact HF.out
      · have HC : Hid (frC k b.length = 0) := by show _ = _; unfold frC; rw [if_neg (by omega), if_neg c3]
        have i3 : ¬ (2097152 : Int) < (b.length : Int) := by omega
        obtain ⟨kn, rfl⟩ : ∃ kn : Nat, k = kn := ⟨k.toNat, by omega⟩
        have hkb : kn < 256 := by omega
        have u1 : (kn : Int) % 256 = (kn : Int) := by omega
        have hA1 := (G.refl W).alloc (.cells (eB.fl (hd6 kn b.length)).toArray 5)
        have hs1 := Sw.lit (E := eB) (ty := 5) W (hd6 kn b.length) (of_decide_eq_true (by kernel_rfl))
        have hf1 : Fresh W (.slice (some ⟨W.heap.size, 0, none⟩) 6 6) := Fresh.new W 6 6 (G.refl W)
        have hrow := (Row.sub (hs1.toRow) 2 4 (by simp [hd6]))
        have KH := hide (rhead_any _ _ _ hrow (fun x hx => hd6_by kn _ hkb (by omega) x (List.mem_of_mem_drop (List.mem_of_mem_take hx))) (by simp [hd6]))
        have HS := hide (And.intro hs1 (And.intro hA1 hf1))
        have HL : Hid (frL (kn : Int) b = frB kn b) := by show _ = _; unfold frL; rw [if_pos HC.out]; rfl
        have HH := hide h
        have HB := hide hb
        have HK := hide hkb
        have HN : Hid (b.length ≤ 2097152) := by show _ ≤ _; omega
        have q1 : ¬ (b.length : Int) < 0 := by omega
        obtain ⟨n, hnn⟩ : ∃ n, n = b.length := ⟨_, rfl⟩
        rw [← hnn] at KH HS HN q1 i3 ⊢
        have HNN := hide hnn
        have e3 : ((n : Int).tdiv 65536) % 256 = ((n / 65536 : Nat) : Int) := by rw [Int.tdiv_eq_ediv_of_nonneg (by omega)]; have := HN.out; omega
        have e4 : (((n : Int).tdiv 256).tmod 256) % 256 = ((n / 256 % 256 : Nat) : Int) := by rw [Int.tdiv_eq_ediv_of_nonneg (by omega), Int.tmod_eq_emod_of_nonneg (by omega)]; omega
        have e5 : ((n : Int).tmod 256) % 256 = ((n % 256 : Nat) : Int) := by rw [Int.tmod_eq_emod_of_nonneg (by omega)]; omega
        have HE := hide (And.intro e3 (And.intro e4 e5))
        clear h hb hn c3 hkb hA1 hs1 hf1 hrow hnn q1 e3 e4 e5
        go_enter Try.func7, Try.ntmps7
        go_wp2_with fail
        refine KH.out.mono ?_
        rintro e w2 ⟨rfl, hg2⟩
        obtain ⟨hs1, hg1, hf1⟩ := HS.out
        have hs2 := hs1.G hg2
        have hgg := hg1.trans hg2
        have et : ((hd6 kn n).drop 2).take 4 = (hd6 kn n).drop 2 := rfl
        rw [et]
        have hA3 := (G.refl w2).alloc (.cells (eB.fl [(sumF 255 (0, 0) ((hd6 kn n).drop 2)).2, (sumF 255 (0, 0) ((hd6 kn n).drop 2)).1]).toArray 5)
        obtain ⟨v5, w5, hr5, hs5, hg5, hf5⟩ := grow_B 22 (hs2.G hA3) (Row.lit w2 5 [(sumF 255 (0, 0) ((hd6 kn n).drop 2)).2, (sumF 255 (0, 0) ((hd6 kn n).drop 2)).1] 2 (by simp)) (hgg.trans hA3) hf1 (by simp [hd6])
        have hs5' : SwB w5 v5 (hd8 kn n) := hs5
        have hnl := HNN.out
        have hhn := HN.out
        obtain ⟨v6, w6, hr6, hs6, hg6, hf6⟩ := grow_B 22 hs5' (HH.out.G hg5) hg5 hf5 (by rw [hd8_len, ← hnl]; omega)
        have hby : By (hd8 kn n ++ b) := (hd8_by kn n HK.out hhn).app HB.out
        have hl6 : (hd8 kn n ++ b).length = n + 8 := by rw [List.length_append, hd8_len, ← hnl]; omega
        obtain ⟨g6, c6, e6⟩ := hs6.slice (by omega)
        rw [hl6] at e6
        have hc6 : n + 8 ≤ c6 := by
          rw [e6] at hs6
          obtain ⟨-, rest, -, -, q, -⟩ := hs6.open
          omega
        have hrow6 := hs6.toRow
        rw [e6] at hrow6 hr6
        have hrow6' := Row.sub hrow6 2 (n + 6) (by omega)
        have ed : ((hd8 kn n ++ b).drop 2).take (n + 6) = (hd8 kn n ++ b).drop 2 := List.take_of_length_le (by rw [List.length_drop]; omega)
        rw [ed] at hrow6'
        have KH2 := hide (rwhole_any _ _ w6 hrow6' (fun x hx => hby x (List.mem_of_mem_drop hx)) (by rw [List.length_drop, hl6]; omega))
        have HS6 := hide (And.intro hs6 (And.intro hg6 hf6))
        have HR5 := hide hr5
        have HR6 := hide hr6
        rw [← hnl] at HR6
        have n6 : ¬ c6 = 2 := by omega
        have n7 : 2 ≤ c6 := by omega
        clear hg2 et hs1 hg1 hf1 hs2 hgg hA3 hr5 hs5 hg5 hf5 hs5' hnl hhn hr6 hs6 hg6 hf6 hby HS KH HH hrow6 hrow6' ed hc6
        generalize sumF 255 (0, 0) ((hd6 kn n).drop 2) = sh at HR5 ⊢
        have HE6 := hide e6
        clear e6
        go_wp2_with (first | (at_builtin; refine wpList_append_run rfl _ _ 22 rfl (.slice (some ⟨W.heap.size, 0, none⟩) 6 6) (.slice (some ⟨w2.heap.size, 0, none⟩) 2 2) rfl rfl HR5.out ?_) | (at_builtin; refine wpList_append_run rfl _ _ 22 rfl v5 (.slice p n cap) rfl rfl HR6.out ?_) | fail)
        refine KH2.out.mono ?_
        rintro e w7 ⟨rfl, hg7⟩
        obtain ⟨hs6, hg6, hf6⟩ := HS6.out
        have hA8 := (G.refl w7).alloc (.cells (eB.fl (tl4 (hd8 kn n ++ b))).toArray 5)
        obtain ⟨v9, w9, hr9, hs9, hg9, hf9⟩ := grow_B 22 (hs6.G (hg7.trans hA8)) (Row.lit w7 5 (tl4 (hd8 kn n ++ b)) 4 (by simp [tl4])) (hg6.trans (hg7.trans hA8)) hf6 (by simp only [tl4, List.length_cons, List.length_nil]; have := HN.out; omega)
        rw [HE6.out] at hr9
        have HF : Hid (∃ u, v9 = u ∧ SwB w9 u (frB kn b) ∧ G W w9 ∧ Fresh W u) := ⟨_, rfl, by rw [frB, ← HNN.out]; exact hs9, hg9, hf9⟩
        obtain ⟨b1, b2⟩ := sumF_lt 65521 (by decide) ((hd8 kn n ++ b).drop 2) (1, 0) (by decide) (by decide)
        unfold tl4 at hr9
        generalize sumF 65521 (1, 0) ((hd8 kn n ++ b).drop 2) = sw at hr9 b1 b2 ⊢
        obtain ⟨x, hx⟩ : ∃ x : Nat, x = sw.2 * 65536 + sw.1 := ⟨_, rfl⟩
        have y1 : sw.2 / 256 = x / 16777216 % 256 := by omega
        have y2 : sw.2 % 256 = x / 65536 % 256 := by omega
        have y3 : sw.1 / 256 = x / 256 % 256 := by omega
        have y4 : sw.1 % 256 = x % 256 := by omega
        rw [y1, y2, y3, y4] at hr9
        rw [← hx]
        have HR9 := hide hr9
        clear hg7 hs6 hg6 hf6 hA8 hr9 hs9 hg9 hf9 HS6 KH2 HR5 HR6 y1 y2 y3 y4 b1 b2 hx
        go_wp2_with (first | (at_builtin; refine wpList_append_run rfl _ _ 22 rfl (.slice (some ⟨g6, 0, none⟩) (n + 8) c6) (.slice (some ⟨w7.heap.size, 0, none⟩) 4 4) rfl rfl HR9.out ?_) | fail)
        go_ret2
        obtain ⟨u, rfl, r1, r2, r3⟩ := HF.out
        exact ⟨_, by rw [HC.out]; rfl, by rw [HL.out]; exact r1, r2, r3⟩
end Go.Proofs.Ytnjeingpjoadjaa
