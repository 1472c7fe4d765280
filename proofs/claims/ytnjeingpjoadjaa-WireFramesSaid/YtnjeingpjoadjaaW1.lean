/- Wire: the two sums. -/
import Derived.Test.YtnjeingpjoadjaaW0
namespace Go.Proofs.Ytnjeingpjoadjaa
open Go.RowKit

/-- Two numbers that run over bytes. -/
def sumS (m : Nat) (s : Nat × Nat) (x : Nat) : Nat × Nat := ((s.1 + x) % m, (s.2 + (s.1 + x) % m) % m)
def sumF (m : Nat) (s : Nat × Nat) (l : List Nat) : Nat × Nat := l.foldl (sumS m) s
theorem sumF_snoc (m : Nat) (s : Nat × Nat) (l : List Nat) (i x : Nat) (h : l[i]? = some x) : sumF m s (l.take (i + 1)) = sumS m (sumF m s (l.take i)) x := by
  rw [List.take_add_one, h]
  simp [sumF, List.foldl_append]
theorem sumF_lt (m : Nat) (hm : 0 < m) : ∀ (l : List Nat) (s : Nat × Nat), s.1 < m → s.2 < m → (sumF m s l).1 < m ∧ (sumF m s l).2 < m
  | [], _, h1, h2 => ⟨h1, h2⟩
  | x :: l, s, _, _ => sumF_lt m hm l (sumS m s x) (Nat.mod_lt _ hm) (Nat.mod_lt _ hm)
theorem st255 (c x : Nat) (hc : c < 255) (hx : x < 256) : (wrap64 ((c : Int) + (x : Int))).tmod 255 = (((c + x) % 255 : Nat) : Int) := by
  have e : wrap64 ((c : Int) + (x : Int)) = ((c + x : Nat) : Int) := by unfold wrap64; omega
  rw [e]; rfl
theorem st65 (c x : Nat) (hc : c < 65521) (hx : x < 65521) : ((c : Int) + (x : Int)) % 4294967296 % 65521 = (((c + x) % 65521 : Nat) : Int) := by omega
theorem u8_of (n : Nat) (h : n < 256) : IntKind.u8.wrap (n : Int) = (n : Int) := by simp [IntKind.wrap, IntKind.bits, IntKind.signed]; omega
theorem u32_of (n : Nat) (h : n < 4294967296) : IntKind.u32.wrap (n : Int) = (n : Int) := by simp [IntKind.wrap, IntKind.bits, IntKind.signed]; omega
theorem u8_mod (n : Nat) : IntKind.u8.wrap (n : Int) = ((n % 256 : Nat) : Int) := by simp [IntKind.wrap, IntKind.bits, IntKind.signed]
theorem Rb.at {W : World} {g o n cap : Nat} {l : List Nat} (h : Rb W (.slice (some ⟨g, o, none⟩) n cap) l) {i x : Nat} (hx : l[i]? = some x) : W.cell? ⟨g, o + i, none⟩ = some (bv x) := by
  have := h.one hx 0 rfl
  simpa using this
set_option maxRecDepth 100000 in
set_option maxHeartbeats 1000000 in
theorem rhead_any (l : List Nat) (v : Value) (W : World) (h : Rb W v l) (hb : By l) (hm : l.length ≤ 1000000000) :
    Calls Try.prog 11 #[v] W fun e W' => e = .returned (.tuple #[bv (sumF 255 (0, 0) l).2, bv (sumF 255 (0, 0) l).1]) ∧ G W W' := by
  obtain ⟨p, cap, rfl⟩ := h.form
  have HS := hide h
  have HB := hide hb
  have HM := hide hm
  obtain ⟨S, hS⟩ : ∃ S, S = sumF 255 (0, 0) l := ⟨_, rfl⟩
  rw [← hS]
  have HSS0 := hide hS
  clear h hb hm hS
  go_enter Try.func11, Try.ntmps11
  go_wp2_with fail
  go_loopw [4, 5, 6] (fun cv dv iv wr => ∃ (i : Nat) (s : Nat × Nat), iv = I i ∧ i ≤ l.length ∧ s = sumF 255 (0, 0) (l.take i) ∧ cv = .int .i64 s.1 ∧ dv = .int .i64 s.2 ∧ G W wr) (fun _ _ iv _ => l.length - (RowKit.intOf iv).toNat)
  case atStart => exact ⟨0, (0, 0), rfl, Nat.zero_le _, rfl, rfl, rfl, G.refl _⟩
  case round =>
    obtain ⟨i, s, rfl, hik, hs, rfl, rfl, hg⟩ := hrel
    by_cases hil : i < l.length
    · obtain ⟨x, hx⟩ : ∃ x, l[i]? = some x := ⟨_, List.getElem?_eq_getElem hil⟩
      have hxb := HB.out x (List.mem_of_getElem? hx)
      have e1 := sumF_snoc 255 (0, 0) l i x hx
      obtain ⟨b1, b2⟩ := sumF_lt 255 (by decide) (l.take i) (0, 0) (by decide) (by decide)
      rw [← hs] at b1 b2 e1
      have HE := hide e1
      have k1 := st255 s.1 x b1 (by omega)
      have k2 := st255 s.2 ((s.1 + x) % 255) b2 (by omega)
      have HSS := hide hs
      obtain ⟨g, o, cap', q⟩ := HS.out.addr (by omega)
      injection q with q1 q2 q3
      subst q1 q3
      have x1 := Rb.at (HS.out.G hg) hx
      have i1 : (i : Int) < l.length := Int.ofNat_lt.2 hil
      have HW : Hid (wrap64 ((i : Int) + 1) = (i : Int) + 1) := by show _ = _; have := HM.out; unfold wrap64; omega
      have HIL := hide hil
      have HG := hide hg
      have HK := hide (And.intro k1 k2)
      clear hik hil hx q2 hg e1 hs b1 b2 k1 k2
      go_wp2_with fail
      rw [HW.out]
      refine ⟨⟨i + 1, sumS 255 s x, rfl, HIL.out, HE.out.symm, ?_, ?_, HG.out⟩, ?_⟩
      · rw [HK.out.1]; rfl
      · rw [HK.out.1, HK.out.2]; rfl
      · simp only [RowKit.intOf]; have := HIL.out; omega
    · have i1 : ¬ ((i : Int) < l.length) := by omega
      have e1 : l.take i = l := List.take_of_length_le (by omega)
      rw [e1] at hs
      obtain ⟨b1, b2⟩ := sumF_lt 255 (by decide) l (0, 0) (by decide) (by decide)
      rw [← HSS0.out] at hs b1 b2; subst hs
      have u1 := u8_of s.1 (by omega)
      have u2 := u8_of s.2 (by omega)
      have HG := hide hg
      clear hik hil hg e1 b1 b2 HSS0
      go_wp2_with fail
      go_ret2
      exact ⟨rfl, HG.out⟩
set_option maxRecDepth 100000 in
set_option maxHeartbeats 1000000 in
theorem rwhole_any (l : List Nat) (v : Value) (W : World) (h : Rb W v l) (hb : By l) (hm : l.length ≤ 1000000000) :
    Calls Try.prog 12 #[v] W fun e W' => e = .returned (.int .u32 (((sumF 65521 (1, 0) l).2 * 65536 + (sumF 65521 (1, 0) l).1 : Nat) : Int)) ∧ G W W' := by
  obtain ⟨p, cap, rfl⟩ := h.form
  have HS := hide h
  have HB := hide hb
  have HM := hide hm
  obtain ⟨S, hS⟩ : ∃ S, S = sumF 65521 (1, 0) l := ⟨_, rfl⟩
  rw [← hS]
  have HSS0 := hide hS
  clear h hb hm hS
  go_enter Try.func12, Try.ntmps12
  go_wp2_with fail
  go_loopw [3, 4, 5] (fun cv dv iv wr => ∃ (i : Nat) (s : Nat × Nat), iv = I i ∧ i ≤ l.length ∧ s = sumF 65521 (1, 0) (l.take i) ∧ cv = .int .u32 s.1 ∧ dv = .int .u32 s.2 ∧ G W wr) (fun _ _ iv _ => l.length - (RowKit.intOf iv).toNat)
  case atStart => exact ⟨0, (1, 0), rfl, Nat.zero_le _, rfl, rfl, rfl, G.refl _⟩
  case round =>
    obtain ⟨i, s, rfl, hik, hs, rfl, rfl, hg⟩ := hrel
    by_cases hil : i < l.length
    · obtain ⟨x, hx⟩ : ∃ x, l[i]? = some x := ⟨_, List.getElem?_eq_getElem hil⟩
      have hxb := HB.out x (List.mem_of_getElem? hx)
      have e1 := sumF_snoc 65521 (1, 0) l i x hx
      obtain ⟨b1, b2⟩ := sumF_lt 65521 (by decide) (l.take i) (1, 0) (by decide) (by decide)
      rw [← hs] at b1 b2 e1
      have HE := hide e1
      have k1 := st65 s.1 x b1 (by omega)
      have k2 := st65 s.2 ((s.1 + x) % 65521) b2 (Nat.mod_lt _ (by decide))
      have HSS := hide hs
      obtain ⟨g, o, cap', q⟩ := HS.out.addr (by omega)
      injection q with q1 q2 q3
      subst q1 q3
      have x1 := Rb.at (HS.out.G hg) hx
      have i1 : (i : Int) < l.length := Int.ofNat_lt.2 hil
      have HW : Hid (wrap64 ((i : Int) + 1) = (i : Int) + 1) := by show _ = _; have := HM.out; unfold wrap64; omega
      have HIL := hide hil
      have HG := hide hg
      have HK := hide (And.intro k1 k2)
      clear hik hil hx q2 hg e1 hs b1 b2 k1 k2
      go_wp2_with fail
      rw [HW.out]
      refine ⟨⟨i + 1, sumS 65521 s x, rfl, HIL.out, HE.out.symm, ?_, ?_, HG.out⟩, ?_⟩
      · rw [HK.out.1]; rfl
      · rw [HK.out.1, HK.out.2]; rfl
      · simp only [RowKit.intOf]; have := HIL.out; omega
    · have i1 : ¬ ((i : Int) < l.length) := by omega
      have e1 : l.take i = l := List.take_of_length_le (by omega)
      rw [e1] at hs
      obtain ⟨b1, b2⟩ := sumF_lt 65521 (by decide) l (1, 0) (by decide) (by decide)
      rw [← HSS0.out] at hs b1 b2; subst hs
      have HG := hide hg
      have HU : Hid (((s.2 : Int) * 65536 + (s.1 : Int)) % 4294967296 = (s.2 : Int) * 65536 + (s.1 : Int)) := by show _ = _; omega
      clear hik hil hg e1 b1 b2 HSS0
      go_wp2_with fail
      go_ret
      exact ⟨by show Ending.returned (Value.int IntKind.u32 _) = _; rw [HU.out], HG.out⟩
set_option maxRecDepth 100000 in
set_option maxHeartbeats 1000000 in
theorem head_any (l : List Nat) (v : Value) (W : World) (h : Rb W v l) (hb : By l) (hm : l.length ≤ 1000000000) (h6 : 6 ≤ l.length) :
    Calls Try.prog 13 #[v] W fun e W' => e = .returned (.agg #[bv (sumF 255 (0, 0) ((l.drop 2).take 4)).2, bv (sumF 255 (0, 0) ((l.drop 2).take 4)).1]) ∧ G W W' := by
  obtain ⟨g, o, cap, rfl⟩ := h.addr (by omega)
  have hcap : l.length ≤ cap := by obtain ⟨p, c, e, hc, _⟩ := h; cases e; exact hc
  have HB : Hid (By ((l.drop 2).take 4)) := fun x hx => hb x (List.mem_of_mem_drop (List.mem_of_mem_take hx))
  have HAT : Hid (∀ i x, ((l.drop 2).take 4)[i]? = some x → W.cell? ⟨g, o + 2 + i, none⟩ = some (bv x)) := fun i x hx => by
    have e : l[2 + i]? = some x := by
      rw [List.getElem?_take] at hx; split at hx; · rw [List.getElem?_drop] at hx; exact hx
      · cases hx
    rw [Nat.add_assoc]; exact Rb.at h e
  have hL : ((l.drop 2).take 4).length = 4 := by simp; omega
  obtain ⟨L, hLL⟩ : ∃ L, L = (l.drop 2).take 4 := ⟨_, rfl⟩
  rw [← hLL] at HB HAT hL ⊢
  obtain ⟨S, hS⟩ : ∃ S, S = sumF 255 (0, 0) L := ⟨_, rfl⟩
  rw [← hS]
  have HSS0 := hide hS
  have c1 : 2 ≤ l.length := by omega
  have c2 : 6 ≤ cap := by omega
  have c3 : ¬ cap = 2 := by omega
  skip
  skip
  have HL := hide hL
  have HM := hide hm
  clear h hb hm hS hLL hL hcap
  go_enter Try.func13, Try.ntmps13
  go_wp2_with fail
  go_loopw [3, 4, 10] (fun cv dv iv wr => ∃ (i : Nat) (s : Nat × Nat), iv = I i ∧ i ≤ L.length ∧ s = sumF 255 (0, 0) (L.take i) ∧ cv = .int .i64 s.1 ∧ dv = .int .i64 s.2 ∧ wr = W.alloc (.cells #[bv 0, bv 0] 35)) (fun _ _ iv _ => L.length - (RowKit.intOf iv).toNat)
  case atStart => exact ⟨0, (0, 0), rfl, Nat.zero_le _, rfl, rfl, rfl, rfl⟩
  case round =>
    obtain ⟨i, s, rfl, hik, hs, rfl, rfl, rfl⟩ := hrel
    by_cases hil : i < L.length
    · obtain ⟨x, hx⟩ : ∃ x, L[i]? = some x := ⟨_, List.getElem?_eq_getElem hil⟩
      have hxb := HB.out x (List.mem_of_getElem? hx)
      have e1 := sumF_snoc 255 (0, 0) L i x hx
      obtain ⟨b1, b2⟩ := sumF_lt 255 (by decide) (L.take i) (0, 0) (by decide) (by decide)
      rw [← hs] at b1 b2 e1
      have HE := hide e1
      have k1 := st255 s.1 x b1 (by omega)
      have k2 := st255 s.2 ((s.1 + x) % 255) b2 (by omega)
      have x0 := HAT.out i x hx
      have x1 := (((G.refl W).alloc (.cells #[bv 0, bv 0] 35)).cell (cell_lt x0)).trans x0
      have i1 : (i : Int) < 4 := by have := HL.out; omega
      have HW : Hid (wrap64 ((i : Int) + 1) = (i : Int) + 1) := by show _ = _; have := HM.out; have := HL.out; unfold wrap64; omega
      have HIL := hide hil
      have HK := hide (And.intro k1 k2)
      clear hik hil hx e1 hs b1 b2 k1 k2 x0
      go_wp2_with fail
      try rw [HW.out]
      refine ⟨⟨i + 1, sumS 255 s x, rfl, HIL.out, HE.out.symm, ?_, ?_, trivial⟩, ?_⟩
      · rw [HK.out.1]; rfl
      · rw [HK.out.1, HK.out.2]; rfl
      · simp only [RowKit.intOf]; have := HIL.out; omega
    · have i1 : ¬ ((i : Int) < 4) := by have := HL.out; omega
      have e1 : L.take i = L := List.take_of_length_le (by omega)
      rw [e1] at hs
      obtain ⟨b1, b2⟩ := sumF_lt 255 (by decide) L (0, 0) (by decide) (by decide)
      rw [← HSS0.out] at hs b1 b2
      subst hs
      have u1 := u8_of s.1 (by omega)
      have u2 := u8_of s.2 (by omega)
      have hB := Blk.new W [bv 0, bv 0] 35
      have hc := hB.cell
      have hf := hB.frozen
      have HG := hide ((G.refl W).alloc (.cells #[bv 0, bv 0] 35))
      clear hik hil e1 b1 b2 HSS0 hB
      go_wp2_with fail
      skip
      refine bodyPost_ret_by (v := .agg #[bv s.2, bv s.1]) (results_cell_row Try.results13 _ _ W.heap.size 35 _ (0, 0) _ rfl (heap_alloc_new _ _) Try.underlying35 rfl (by kernel_rfl)) ?_ ⟨rfl, (G.refl W).alloc _⟩
      rfl
set_option maxRecDepth 100000 in
set_option maxHeartbeats 1000000 in
theorem whole_any (l : List Nat) (v : Value) (W : World) (h : Rb W v l) (hb : By l) (hm : l.length ≤ 1000000000) (h6 : 3 ≤ l.length) :
    Calls Try.prog 14 #[v] W fun e W' => e = .returned (.agg #[bv ((sumF 65521 (1, 0) (l.drop 2)).2 / 256), bv ((sumF 65521 (1, 0) (l.drop 2)).2 % 256), bv ((sumF 65521 (1, 0) (l.drop 2)).1 / 256), bv ((sumF 65521 (1, 0) (l.drop 2)).1 % 256)]) ∧ G W W' := by
  obtain ⟨g, o, cap, rfl⟩ := h.addr (by omega)
  have hcap : l.length ≤ cap := by obtain ⟨p, c, e, hc, _⟩ := h; cases e; exact hc
  have HB : Hid (By (l.drop 2)) := fun x hx => hb x (List.mem_of_mem_drop hx)
  have HAT : Hid (∀ i x, (l.drop 2)[i]? = some x → W.cell? ⟨g, o + 2 + i, none⟩ = some (bv x)) := fun i x hx => by
    have e : l[2 + i]? = some x := by
      rw [List.getElem?_drop] at hx; exact hx
    rw [Nat.add_assoc]; exact Rb.at h e
  have hL : (l.drop 2).length = l.length - 2 := by simp
  obtain ⟨L, hLL⟩ : ∃ L, L = l.drop 2 := ⟨_, rfl⟩
  rw [← hLL] at HB HAT hL ⊢
  obtain ⟨S, hS⟩ : ∃ S, S = sumF 65521 (1, 0) L := ⟨_, rfl⟩
  rw [← hS]
  have HSS0 := hide hS
  have c1 : 2 ≤ l.length := by omega
  have c2 : l.length ≤ cap := by omega
  have c3 : ¬ cap = 2 := by omega
  obtain ⟨n, hn⟩ : ∃ n, l.length = n + 2 := ⟨l.length - 2, by omega⟩
  rw [hn] at hL c2 hm ⊢
  have HL := hide hL
  have HM := hide hm
  clear h hb hm hS hLL hL hcap
  go_enter Try.func14, Try.ntmps14
  go_wp2_with fail
  go_loopw [3, 4, 10] (fun cv dv iv wr => ∃ (i : Nat) (s : Nat × Nat), iv = I i ∧ i ≤ L.length ∧ s = sumF 65521 (1, 0) (L.take i) ∧ cv = .int .u32 s.1 ∧ dv = .int .u32 s.2 ∧ wr = W.alloc (.cells #[bv 0, bv 0, bv 0, bv 0] 37)) (fun _ _ iv _ => L.length - (RowKit.intOf iv).toNat)
  case atStart => exact ⟨0, (1, 0), rfl, Nat.zero_le _, rfl, rfl, rfl, rfl⟩
  case round =>
    obtain ⟨i, s, rfl, hik, hs, rfl, rfl, rfl⟩ := hrel
    by_cases hil : i < L.length
    · obtain ⟨x, hx⟩ : ∃ x, L[i]? = some x := ⟨_, List.getElem?_eq_getElem hil⟩
      have hxb := HB.out x (List.mem_of_getElem? hx)
      have e1 := sumF_snoc 65521 (1, 0) L i x hx
      obtain ⟨b1, b2⟩ := sumF_lt 65521 (by decide) (L.take i) (1, 0) (by decide) (by decide)
      rw [← hs] at b1 b2 e1
      have HE := hide e1
      have k1 := st65 s.1 x b1 (by omega)
      have k2 := st65 s.2 ((s.1 + x) % 65521) b2 (Nat.mod_lt _ (by decide))
      have x0 := HAT.out i x hx
      have x1 := (((G.refl W).alloc (.cells #[bv 0, bv 0, bv 0, bv 0] 37)).cell (cell_lt x0)).trans x0
      have i1 : (i : Int) < n := by have := HL.out; omega
      have HW : Hid (wrap64 ((i : Int) + 1) = (i : Int) + 1) := by show _ = _; have := HM.out; have := HL.out; unfold wrap64; omega
      have HIL := hide hil
      have HK := hide (And.intro k1 k2)
      clear hik hil hx e1 hs b1 b2 k1 k2 x0
      go_wp2_with fail
      try rw [HW.out]
      refine ⟨⟨i + 1, sumS 65521 s x, rfl, HIL.out, HE.out.symm, ?_, ?_, trivial⟩, ?_⟩
      · rw [HK.out.1]; rfl
      · rw [HK.out.1, HK.out.2]; rfl
      · simp only [RowKit.intOf]; have := HIL.out; omega
    · have i1 : ¬ ((i : Int) < n) := by have := HL.out; omega
      have e1 : L.take i = L := List.take_of_length_le (by omega)
      rw [e1] at hs
      obtain ⟨b1, b2⟩ := sumF_lt 65521 (by decide) L (1, 0) (by decide) (by decide)
      rw [← HSS0.out] at hs b1 b2
      subst hs
      have HQ : Hid ((s.2 : Int) / 256 % 256 = ((s.2 / 256 : Nat) : Int) ∧ (s.1 : Int) / 256 % 256 = ((s.1 / 256 : Nat) : Int) ∧ (s.2 : Int) % 256 = ((s.2 % 256 : Nat) : Int) ∧ (s.1 : Int) % 256 = ((s.1 % 256 : Nat) : Int)) := ⟨by omega, by omega, by omega, by omega⟩
      have hB := Blk.new W [bv 0, bv 0, bv 0, bv 0] 37
      have hc := hB.cell
      have hf := hB.frozen
      have HG := hide ((G.refl W).alloc (.cells #[bv 0, bv 0, bv 0, bv 0] 37))
      clear hik hil e1 b1 b2 HSS0 hB
      go_wp2_with fail
      rw [HQ.out.1, HQ.out.2.1, HQ.out.2.2.1, HQ.out.2.2.2]
      refine bodyPost_ret_by (v := .agg #[bv (s.2 / 256), bv (s.2 % 256), bv (s.1 / 256), bv (s.1 % 256)]) (results_cell_row Try.results14 _ _ W.heap.size 37 _ (0, 0) _ rfl (heap_alloc_new _ _) Try.underlying37 rfl (by kernel_rfl)) ?_ ⟨rfl, (G.refl W).alloc _⟩
      rfl
end Go.Proofs.Ytnjeingpjoadjaa
