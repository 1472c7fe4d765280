/- Wire: Frame, the program's and the document's. -/
import Derived.Test.YtcdjjmjhdoanlaaGreatDoorW0
namespace Go.Proofs.YtcdjjmjhdoanlaaGreatDoor
section
section
open Go.RowKit

/-- Two numbers that run over bytes. -/
def sumS (m : Nat) (s : Nat × Nat) (x : Nat) : Nat × Nat := ((s.1 + x) % m, (s.2 + (s.1 + x) % m) % m)
def sumF (m : Nat) (s : Nat × Nat) (l : List Nat) : Nat × Nat := l.foldl (sumS m) s
theorem sumF_snoc (m : Nat) (s : Nat × Nat) (l : List Nat) (i x : Nat) (h : l[i]? = some x) : sumF m s (l.take (i + 1)) = sumS m (sumF m s (l.take i)) x := by
  rw [List.take_add_one, h]
  simp [sumF, List.foldl_append]
theorem sumF_lt (m : Nat) (hm : 0 < m) : ∀ (l : List Nat) (s : Nat × Nat), s.1 < m → s.2 < m → (sumF m s l).1 < m ∧ (sumF m s l).2 < m
  | [], _, h1, h2 => ⟨h1, h2⟩
  | x :: l, s, _, _ => sumF_lt m hm l (sumS m s x) (Nat.mod_lt _ hm) (Nat.mod_lt _ hm)
theorem st255 (c x : Nat) (hc : c < 255) (hx : x < 256) : (wrap64 ((c : Int) + (x : Int))).tmod 255 = (((c + x) % 255 : Nat) : Int) := by
  have e : wrap64 ((c : Int) + (x : Int)) = ((c + x : Nat) : Int) := by unfold wrap64; omega
  rw [e]; rfl
theorem st65 (c x : Nat) (hc : c < 65521) (hx : x < 65521) : ((c : Int) + (x : Int)) % 4294967296 % 65521 = (((c + x) % 65521 : Nat) : Int) := by omega
theorem u8_of (n : Nat) (h : n < 256) : IntKind.u8.wrap (n : Int) = (n : Int) := by simp [IntKind.wrap, IntKind.bits, IntKind.signed]; omega
theorem u32_of (n : Nat) (h : n < 4294967296) : IntKind.u32.wrap (n : Int) = (n : Int) := by simp [IntKind.wrap, IntKind.bits, IntKind.signed]; omega
theorem u8_mod (n : Nat) : IntKind.u8.wrap (n : Int) = ((n % 256 : Nat) : Int) := by simp [IntKind.wrap, IntKind.bits, IntKind.signed]
theorem Rb.at {W : World} {g o n cap : Nat} {l : List Nat} (h : Rb W (.slice (some ⟨g, o, none⟩) n cap) l) {i x : Nat} (hx : l[i]? = some x) : W.cell? ⟨g, o + i, none⟩ = some (bv x) := by
  have := h.one hx 0 rfl
  simpa using this
set_option maxRecDepth 100000 in
set_option maxHeartbeats 1000000 in
theorem rhead_any (l : List Nat) (v : Value) (W : World) (h : Rb W v l) (hb : By l) (hm : l.length ≤ 1000000000) :
    Calls Tryz.prog 73 #[v] W fun e W' => e = .returned (.tuple #[bv (sumF 255 (0, 0) l).2, bv (sumF 255 (0, 0) l).1]) ∧ G W W' := by
  obtain ⟨p, cap, rfl⟩ := h.form
  have HS := hide h
  have HB := hide hb
  have HM := hide hm
  obtain ⟨S, hS⟩ : ∃ S, S = sumF 255 (0, 0) l := ⟨_, rfl⟩
  rw [← hS]
  have HSS0 := hide hS
  clear h hb hm hS
  go_enter Tryz.func73, Tryz.ntmps73
  go_wp2_with fail
  go_loopw [4, 5, 6] (fun cv dv iv wr => ∃ (i : Nat) (s : Nat × Nat), iv = I i ∧ i ≤ l.length ∧ s = sumF 255 (0, 0) (l.take i) ∧ cv = .int .i64 s.1 ∧ dv = .int .i64 s.2 ∧ G W wr) (fun _ _ iv _ => l.length - (RowKit.intOf iv).toNat)
  case atStart => exact ⟨0, (0, 0), rfl, Nat.zero_le _, rfl, rfl, rfl, G.refl _⟩
  case round =>
    obtain ⟨i, s, rfl, hik, hs, rfl, rfl, hg⟩ := hrel
    by_cases hil : i < l.length
    · obtain ⟨x, hx⟩ : ∃ x, l[i]? = some x := ⟨_, List.getElem?_eq_getElem hil⟩
      have hxb := HB.out x (List.mem_of_getElem? hx)
      have e1 := sumF_snoc 255 (0, 0) l i x hx
      obtain ⟨b1, b2⟩ := sumF_lt 255 (by decide) (l.take i) (0, 0) (by decide) (by decide)
      rw [← hs] at b1 b2 e1
      have HE := hide e1
      have k1 := st255 s.1 x b1 (by omega)
      have k2 := st255 s.2 ((s.1 + x) % 255) b2 (by omega)
      have HSS := hide hs
      obtain ⟨g, o, cap', q⟩ := HS.out.addr (by omega)
      injection q with q1 q2 q3
      subst q1 q3
      have x1 := Rb.at (HS.out.G hg) hx
      have i1 : (i : Int) < l.length := Int.ofNat_lt.2 hil
      have HW : Hid (wrap64 ((i : Int) + 1) = (i : Int) + 1) := by show _ = _; have := HM.out; unfold wrap64; omega
      have HIL := hide hil
      have HG := hide hg
      have HK := hide (And.intro k1 k2)
      clear hik hil hx q2 hg e1 hs b1 b2 k1 k2
      go_wp2_with fail
      rw [HW.out]
      refine ⟨⟨i + 1, sumS 255 s x, rfl, HIL.out, HE.out.symm, ?_, ?_, HG.out⟩, ?_⟩
      · rw [HK.out.1]; rfl
      · rw [HK.out.1, HK.out.2]; rfl
      · simp only [RowKit.intOf]; have := HIL.out; omega
    · have i1 : ¬ ((i : Int) < l.length) := by omega
      have e1 : l.take i = l := List.take_of_length_le (by omega)
      rw [e1] at hs
      obtain ⟨b1, b2⟩ := sumF_lt 255 (by decide) l (0, 0) (by decide) (by decide)
      rw [← HSS0.out] at hs b1 b2; subst hs
      have u1 := u8_of s.1 (by omega)
      have u2 := u8_of s.2 (by omega)
      have HG := hide hg
      clear hik hil hg e1 b1 b2 HSS0
      go_wp2_with fail
      go_ret2
      exact ⟨rfl, HG.out⟩
set_option maxRecDepth 100000 in
set_option maxHeartbeats 1000000 in
theorem rwhole_any (l : List Nat) (v : Value) (W : World) (h : Rb W v l) (hb : By l) (hm : l.length ≤ 1000000000) :
    Calls Tryz.prog 74 #[v] W fun e W' => e = .returned (.int .u32 (((sumF 65521 (1, 0) l).2 * 65536 + (sumF 65521 (1, 0) l).1 : Nat) : Int)) ∧ G W W' := by
  obtain ⟨p, cap, rfl⟩ := h.form
  have HS := hide h
  have HB := hide hb
  have HM := hide hm
  obtain ⟨S, hS⟩ : ∃ S, S = sumF 65521 (1, 0) l := ⟨_, rfl⟩
  rw [← hS]
  have HSS0 := hide hS
  clear h hb hm hS
  go_enter Tryz.func74, Tryz.ntmps74
  go_wp2_with fail
  go_loopw [3, 4, 5] (fun cv dv iv wr => ∃ (i : Nat) (s : Nat × Nat), iv = I i ∧ i ≤ l.length ∧ s = sumF 65521 (1, 0) (l.take i) ∧ cv = .int .u32 s.1 ∧ dv = .int .u32 s.2 ∧ G W wr) (fun _ _ iv _ => l.length - (RowKit.intOf iv).toNat)
  case atStart => exact ⟨0, (1, 0), rfl, Nat.zero_le _, rfl, rfl, rfl, G.refl _⟩
  case round =>
    obtain ⟨i, s, rfl, hik, hs, rfl, rfl, hg⟩ := hrel
    by_cases hil : i < l.length
    · obtain ⟨x, hx⟩ : ∃ x, l[i]? = some x := ⟨_, List.getElem?_eq_getElem hil⟩
      have hxb := HB.out x (List.mem_of_getElem? hx)
      have e1 := sumF_snoc 65521 (1, 0) l i x hx
      obtain ⟨b1, b2⟩ := sumF_lt 65521 (by decide) (l.take i) (1, 0) (by decide) (by decide)
      rw [← hs] at b1 b2 e1
      have HE := hide e1
      have k1 := st65 s.1 x b1 (by omega)
      have k2 := st65 s.2 ((s.1 + x) % 65521) b2 (Nat.mod_lt _ (by decide))
      have HSS := hide hs
      obtain ⟨g, o, cap', q⟩ := HS.out.addr (by omega)
      injection q with q1 q2 q3
      subst q1 q3
      have x1 := Rb.at (HS.out.G hg) hx
      have i1 : (i : Int) < l.length := Int.ofNat_lt.2 hil
      have HW : Hid (wrap64 ((i : Int) + 1) = (i : Int) + 1) := by show _ = _; have := HM.out; unfold wrap64; omega
      have HIL := hide hil
      have HG := hide hg
      have HK := hide (And.intro k1 k2)
      clear hik hil hx q2 hg e1 hs b1 b2 k1 k2
      go_wp2_with fail
      rw [HW.out]
      refine ⟨⟨i + 1, sumS 65521 s x, rfl, HIL.out, HE.out.symm, ?_, ?_, HG.out⟩, ?_⟩
      · rw [HK.out.1]; rfl
      · rw [HK.out.1, HK.out.2]; rfl
      · simp only [RowKit.intOf]; have := HIL.out; omega
    · have i1 : ¬ ((i : Int) < l.length) := by omega
      have e1 : l.take i = l := List.take_of_length_le (by omega)
      rw [e1] at hs
      obtain ⟨b1, b2⟩ := sumF_lt 65521 (by decide) l (1, 0) (by decide) (by decide)
      rw [← HSS0.out] at hs b1 b2; subst hs
      have HG := hide hg
      have HU : Hid (((s.2 : Int) * 65536 + (s.1 : Int)) % 4294967296 = (s.2 : Int) * 65536 + (s.1 : Int)) := by show _ = _; omega
      clear hik hil hg e1 b1 b2 HSS0
      go_wp2_with fail
      go_ret
      exact ⟨by show Ending.returned (Value.int IntKind.u32 _) = _; rw [HU.out], HG.out⟩
set_option maxRecDepth 100000 in
set_option maxHeartbeats 1000000 in
theorem head_any (l : List Nat) (v : Value) (W : World) (h : Rb W v l) (hb : By l) (hm : l.length ≤ 1000000000) (h6 : 6 ≤ l.length) :
    Calls Tryz.prog 42 #[v] W fun e W' => e = .returned (.agg #[bv (sumF 255 (0, 0) ((l.drop 2).take 4)).2, bv (sumF 255 (0, 0) ((l.drop 2).take 4)).1]) ∧ G W W' := by
  obtain ⟨g, o, cap, rfl⟩ := h.addr (by omega)
  have hcap : l.length ≤ cap := by obtain ⟨p, c, e, hc, _⟩ := h; cases e; exact hc
  have HB : Hid (By ((l.drop 2).take 4)) := fun x hx => hb x (List.mem_of_mem_drop (List.mem_of_mem_take hx))
  have HAT : Hid (∀ i x, ((l.drop 2).take 4)[i]? = some x → W.cell? ⟨g, o + 2 + i, none⟩ = some (bv x)) := fun i x hx => by
    have e : l[2 + i]? = some x := by
      rw [List.getElem?_take] at hx; split at hx; · rw [List.getElem?_drop] at hx; exact hx
      · cases hx
    rw [Nat.add_assoc]; exact Rb.at h e
  have hL : ((l.drop 2).take 4).length = 4 := by simp; omega
  obtain ⟨L, hLL⟩ : ∃ L, L = (l.drop 2).take 4 := ⟨_, rfl⟩
  rw [← hLL] at HB HAT hL ⊢
  obtain ⟨S, hS⟩ : ∃ S, S = sumF 255 (0, 0) L := ⟨_, rfl⟩
  rw [← hS]
  have HSS0 := hide hS
  have c1 : 2 ≤ l.length := by omega
  have c2 : 6 ≤ cap := by omega
  have c3 : ¬ cap = 2 := by omega
  skip
  skip
  have HL := hide hL
  have HM := hide hm
  clear h hb hm hS hLL hL hcap
  go_enter Tryz.func42, Tryz.ntmps42
  go_wp2_with fail
  go_loopw [3, 4, 10] (fun cv dv iv wr => ∃ (i : Nat) (s : Nat × Nat), iv = I i ∧ i ≤ L.length ∧ s = sumF 255 (0, 0) (L.take i) ∧ cv = .int .i64 s.1 ∧ dv = .int .i64 s.2 ∧ wr = W.alloc (.cells #[bv 0, bv 0] 89)) (fun _ _ iv _ => L.length - (RowKit.intOf iv).toNat)
  case atStart => exact ⟨0, (0, 0), rfl, Nat.zero_le _, rfl, rfl, rfl, rfl⟩
  case round =>
    obtain ⟨i, s, rfl, hik, hs, rfl, rfl, rfl⟩ := hrel
    by_cases hil : i < L.length
    · obtain ⟨x, hx⟩ : ∃ x, L[i]? = some x := ⟨_, List.getElem?_eq_getElem hil⟩
      have hxb := HB.out x (List.mem_of_getElem? hx)
      have e1 := sumF_snoc 255 (0, 0) L i x hx
      obtain ⟨b1, b2⟩ := sumF_lt 255 (by decide) (L.take i) (0, 0) (by decide) (by decide)
      rw [← hs] at b1 b2 e1
      have HE := hide e1
      have k1 := st255 s.1 x b1 (by omega)
      have k2 := st255 s.2 ((s.1 + x) % 255) b2 (by omega)
      have x0 := HAT.out i x hx
      have x1 := (((G.refl W).alloc (.cells #[bv 0, bv 0] 89)).cell (cell_lt x0)).trans x0
      have i1 : (i : Int) < 4 := by have := HL.out; omega
      have HW : Hid (wrap64 ((i : Int) + 1) = (i : Int) + 1) := by show _ = _; have := HM.out; have := HL.out; unfold wrap64; omega
      have HIL := hide hil
      have HK := hide (And.intro k1 k2)
      clear hik hil hx e1 hs b1 b2 k1 k2 x0
      go_wp2_with fail
      try rw [HW.out]
      refine ⟨⟨i + 1, sumS 255 s x, rfl, HIL.out, HE.out.symm, ?_, ?_, trivial⟩, ?_⟩
      · rw [HK.out.1]; rfl
      · rw [HK.out.1, HK.out.2]; rfl
      · simp only [RowKit.intOf]; have := HIL.out; omega
    · have i1 : ¬ ((i : Int) < 4) := by have := HL.out; omega
      have e1 : L.take i = L := List.take_of_length_le (by omega)
      rw [e1] at hs
      obtain ⟨b1, b2⟩ := sumF_lt 255 (by decide) L (0, 0) (by decide) (by decide)
      rw [← HSS0.out] at hs b1 b2
      subst hs
      have u1 := u8_of s.1 (by omega)
      have u2 := u8_of s.2 (by omega)
      have hB := Blk.new W [bv 0, bv 0] 89
      have hc := hB.cell
      have hf := hB.frozen
      have HG := hide ((G.refl W).alloc (.cells #[bv 0, bv 0] 89))
      clear hik hil e1 b1 b2 HSS0 hB
      go_wp2_with fail
      skip
      refine bodyPost_ret_by (v := .agg #[bv s.2, bv s.1]) (results_cell_row Tryz.results42 _ _ W.heap.size 89 _ (0, 0) _ rfl (heap_alloc_new _ _) Tryz.underlying89 rfl (by kernel_rfl)) ?_ ⟨rfl, (G.refl W).alloc _⟩
      rfl
set_option maxRecDepth 100000 in
set_option maxHeartbeats 1000000 in
theorem whole_any (l : List Nat) (v : Value) (W : World) (h : Rb W v l) (hb : By l) (hm : l.length ≤ 1000000000) (h6 : 3 ≤ l.length) :
    Calls Tryz.prog 43 #[v] W fun e W' => e = .returned (.agg #[bv ((sumF 65521 (1, 0) (l.drop 2)).2 / 256), bv ((sumF 65521 (1, 0) (l.drop 2)).2 % 256), bv ((sumF 65521 (1, 0) (l.drop 2)).1 / 256), bv ((sumF 65521 (1, 0) (l.drop 2)).1 % 256)]) ∧ G W W' := by
  obtain ⟨g, o, cap, rfl⟩ := h.addr (by omega)
  have hcap : l.length ≤ cap := by obtain ⟨p, c, e, hc, _⟩ := h; cases e; exact hc
  have HB : Hid (By (l.drop 2)) := fun x hx => hb x (List.mem_of_mem_drop hx)
  have HAT : Hid (∀ i x, (l.drop 2)[i]? = some x → W.cell? ⟨g, o + 2 + i, none⟩ = some (bv x)) := fun i x hx => by
    have e : l[2 + i]? = some x := by
      rw [List.getElem?_drop] at hx; exact hx
    rw [Nat.add_assoc]; exact Rb.at h e
  have hL : (l.drop 2).length = l.length - 2 := by simp
  obtain ⟨L, hLL⟩ : ∃ L, L = l.drop 2 := ⟨_, rfl⟩
  rw [← hLL] at HB HAT hL ⊢
  obtain ⟨S, hS⟩ : ∃ S, S = sumF 65521 (1, 0) L := ⟨_, rfl⟩
  rw [← hS]
  have HSS0 := hide hS
  have c1 : 2 ≤ l.length := by omega
  have c2 : l.length ≤ cap := by omega
  have c3 : ¬ cap = 2 := by omega
  obtain ⟨n, hn⟩ : ∃ n, l.length = n + 2 := ⟨l.length - 2, by omega⟩
  rw [hn] at hL c2 hm ⊢
  have HL := hide hL
  have HM := hide hm
  clear h hb hm hS hLL hL hcap
  go_enter Tryz.func43, Tryz.ntmps43
  go_wp2_with fail
  go_loopw [3, 4, 10] (fun cv dv iv wr => ∃ (i : Nat) (s : Nat × Nat), iv = I i ∧ i ≤ L.length ∧ s = sumF 65521 (1, 0) (L.take i) ∧ cv = .int .u32 s.1 ∧ dv = .int .u32 s.2 ∧ wr = W.alloc (.cells #[bv 0, bv 0, bv 0, bv 0] 91)) (fun _ _ iv _ => L.length - (RowKit.intOf iv).toNat)
  case atStart => exact ⟨0, (1, 0), rfl, Nat.zero_le _, rfl, rfl, rfl, rfl⟩
  case round =>
    obtain ⟨i, s, rfl, hik, hs, rfl, rfl, rfl⟩ := hrel
    by_cases hil : i < L.length
    · obtain ⟨x, hx⟩ : ∃ x, L[i]? = some x := ⟨_, List.getElem?_eq_getElem hil⟩
      have hxb := HB.out x (List.mem_of_getElem? hx)
      have e1 := sumF_snoc 65521 (1, 0) L i x hx
      obtain ⟨b1, b2⟩ := sumF_lt 65521 (by decide) (L.take i) (1, 0) (by decide) (by decide)
      rw [← hs] at b1 b2 e1
      have HE := hide e1
      have k1 := st65 s.1 x b1 (by omega)
      have k2 := st65 s.2 ((s.1 + x) % 65521) b2 (Nat.mod_lt _ (by decide))
      have x0 := HAT.out i x hx
      have x1 := (((G.refl W).alloc (.cells #[bv 0, bv 0, bv 0, bv 0] 91)).cell (cell_lt x0)).trans x0
      have i1 : (i : Int) < n := by have := HL.out; omega
      have HW : Hid (wrap64 ((i : Int) + 1) = (i : Int) + 1) := by show _ = _; have := HM.out; have := HL.out; unfold wrap64; omega
      have HIL := hide hil
      have HK := hide (And.intro k1 k2)
      clear hik hil hx e1 hs b1 b2 k1 k2 x0
      go_wp2_with fail
      try rw [HW.out]
      refine ⟨⟨i + 1, sumS 65521 s x, rfl, HIL.out, HE.out.symm, ?_, ?_, trivial⟩, ?_⟩
      · rw [HK.out.1]; rfl
      · rw [HK.out.1, HK.out.2]; rfl
      · simp only [RowKit.intOf]; have := HIL.out; omega
    · have i1 : ¬ ((i : Int) < n) := by have := HL.out; omega
      have e1 : L.take i = L := List.take_of_length_le (by omega)
      rw [e1] at hs
      obtain ⟨b1, b2⟩ := sumF_lt 65521 (by decide) L (1, 0) (by decide) (by decide)
      rw [← HSS0.out] at hs b1 b2
      subst hs
      have HQ : Hid ((s.2 : Int) / 256 % 256 = ((s.2 / 256 : Nat) : Int) ∧ (s.1 : Int) / 256 % 256 = ((s.1 / 256 : Nat) : Int) ∧ (s.2 : Int) % 256 = ((s.2 % 256 : Nat) : Int) ∧ (s.1 : Int) % 256 = ((s.1 % 256 : Nat) : Int)) := ⟨by omega, by omega, by omega, by omega⟩
      have hB := Blk.new W [bv 0, bv 0, bv 0, bv 0] 91
      have hc := hB.cell
      have hf := hB.frozen
      have HG := hide ((G.refl W).alloc (.cells #[bv 0, bv 0, bv 0, bv 0] 91))
      clear hik hil e1 b1 b2 HSS0 hB
      go_wp2_with fail
      rw [HQ.out.1, HQ.out.2.1, HQ.out.2.2.1, HQ.out.2.2.2]
      refine bodyPost_ret_by (v := .agg #[bv (s.2 / 256), bv (s.2 % 256), bv (s.1 / 256), bv (s.1 % 256)]) (results_cell_row Tryz.results43 _ _ W.heap.size 91 _ (0, 0) _ rfl (heap_alloc_new _ _) Tryz.underlying91 rfl (by kernel_rfl)) ?_ ⟨rfl, (G.refl W).alloc _⟩
      rfl
end
open Go.RowKit

/-- A frame's first six bytes, its first eight, all of it. -/
def hd6 (k n : Nat) : List Nat := [165, 90, k, n / 65536, n / 256 % 256, n % 256]
def hd8 (k n : Nat) : List Nat := hd6 k n ++ [(sumF 255 (0, 0) ((hd6 k n).drop 2)).2, (sumF 255 (0, 0) ((hd6 k n).drop 2)).1]
def tl4 (l : List Nat) : List Nat := [(sumF 65521 (1, 0) (l.drop 2)).2 / 256, (sumF 65521 (1, 0) (l.drop 2)).2 % 256, (sumF 65521 (1, 0) (l.drop 2)).1 / 256, (sumF 65521 (1, 0) (l.drop 2)).1 % 256]
def frB (k : Nat) (b : List Nat) : List Nat := (hd8 k b.length ++ b) ++ tl4 (hd8 k b.length ++ b)
theorem hd6_by (k n : Nat) (hk : k < 256) (hn : n ≤ 2097152) : By (hd6 k n) := fun x hx => by
  simp [hd6] at hx; omega
theorem hd8_by (k n : Nat) (hk : k < 256) (hn : n ≤ 2097152) : By (hd8 k n) := fun x hx => by
  obtain ⟨b1, b2⟩ := sumF_lt 255 (by decide) ((hd6 k n).drop 2) (0, 0) (by decide) (by decide)
  rw [hd8, List.mem_append] at hx
  rcases hx with hx | hx
  · exact hd6_by k n hk hn x hx
  · simp at hx; omega
theorem By.app {a b : List Nat} (h : By a) (k : By b) : By (a ++ b) := fun x hx => (List.mem_append.1 hx).elim (h x) (k x)
theorem tl4_by (l : List Nat) : By (tl4 l) := fun x hx => by
  obtain ⟨b1, b2⟩ := sumF_lt 65521 (by decide) (l.drop 2) (1, 0) (by decide) (by decide)
  simp [tl4] at hx; omega
theorem frB_by (k : Nat) (b : List Nat) (hk : k < 256) (hb : By b) (hn : b.length ≤ 2097152) : By (frB k b) := ((hd8_by k _ hk hn).app hb).app (tl4_by _)
theorem hd8_len (k n : Nat) : (hd8 k n).length = 8 := rfl
theorem frB_len (k : Nat) (b : List Nat) : (frB k b).length = 12 + b.length := by simp [frB, hd8_len, tl4]; omega
theorem mk_B (W : World) (c : Nat) (z : Int) (hz : z = (c : Int)) (hc : c ≤ 140737488355328) : ∃ w', (Instr.makeSlice 23 (.int .i64 0) (.int .i64 z)).run Tryz.prog W = .ok (.slice (some ⟨W.heap.size, 0, none⟩) 0 c) w' ∧ SwB w' (.slice (some ⟨W.heap.size, 0, none⟩) 0 c) [] ∧ G W w' ∧ Fresh W (.slice (some ⟨W.heap.size, 0, none⟩) 0 c) := by
  subst hz
  obtain ⟨i, hi, h0, h1, h2⟩ := info_B
  have hm : (140737488355328 : Nat) ≤ maxLen := of_decide_eq_true (by kernel_rfl)
  obtain ⟨w', q1, q2, q3⟩ := run_make_own (P := Tryz.prog) W 0 23 5 i _ 1 Tryz.underlying23 hi h0 h1 .i64 .i64 c (by rw [h2]; omega) (by omega) (Nat.zero_le _)
  exact ⟨w', q1, Sw.of_row (E := eB) (b := 0) (n := 0) (by simpa [Enc.fl] using q2) rfl, ⟨q3.os, q3.tape, q3.output, q3.size, fun k hk => q3.block k hk (by simp)⟩, fun k e => by simp [Value.ownBlock] at e; omega⟩
set_option maxRecDepth 100000 in
set_option maxHeartbeats 1000000 in
theorem framed_any (k : Nat) (b : List Nat) (v : Value) (W : World) (h : Rb W v b) (hb : By b) (hk : k < 256) (hn : b.length ≤ 2097152) :
    Calls Tryz.prog 18 #[bv k, v] W fun e W' => ∃ v', e = .returned v' ∧ SwB W' v' (frB k b) ∧ G W W' ∧ Fresh W v' := by
  obtain ⟨p, cap, rfl⟩ := h.form
  obtain ⟨w1, hmk, hs1, hg1, hf1⟩ := mk_B W (b.length + 12) ((b.length : Int) + 12) (by omega) (by omega)
  -- the first six
  have hA1 := (G.refl w1).alloc (.cells (eB.fl (hd6 k b.length)).toArray 5)
  obtain ⟨v2, w2, hr2, hs2, hg2, hf2⟩ := grow_B 23 (hs1.G hA1) (Row.lit w1 5 (hd6 k b.length) 6 (by simp [hd6])) (hg1.trans hA1) hf1 (by simp [hd6])
  have KH := hide (head_any (hd6 k b.length) v2 w2 hs2.toRow (hd6_by k _ hk hn) (by simp [hd6]) (by simp [hd6]))
  have HMK := hide hmk
  have HR2 := hide hr2
  have HS2 := hide (And.intro hs2 (And.intro hg2 hf2))
  have HH := hide h
  have HB := hide hb
  have HK := hide hk
  have HN := hide hn
  obtain ⟨n, hnn⟩ : ∃ n, n = b.length := ⟨_, rfl⟩
  rw [← hnn] at HMK HR2 HS2 KH HN ⊢
  have HNN := hide hnn
  have e1 : wrap64 (8 + (n : Int)) = 8 + (n : Int) := by unfold wrap64; omega
  have e2 : wrap64 (8 + (n : Int) + 4) = ((n + 12 : Nat) : Int) := by unfold wrap64; omega
  have e3 : ((n : Int) / 65536) % 256 = ((n / 65536 : Nat) : Int) := by omega
  have e4 : ((n : Int) / 256) % 256 = ((n / 256 % 256 : Nat) : Int) := by omega
  have e5 : (n : Int) % 256 = ((n % 256 : Nat) : Int) := by omega
  have HE := hide (And.intro e3 (And.intro e4 e5))
  clear h hmk hs1 hg1 hf1 hA1 hr2 hs2 hg2 hf2 hb hk hn hnn e3 e4 e5
  go_enter Tryz.func18, Tryz.ntmps18
  go_wp2_with fail
  rw [HMK.out]
  generalize W.heap.size = gw at HR2 HMK
  go_wp2_with (first | (at_builtin; refine Hid.out ?_) | fail)
  unfold Hid
  rw [HE.out.1, HE.out.2.1, HE.out.2.2]
  refine wpList_append_run rfl _ _ 23 rfl (.slice (some ⟨gw, 0, none⟩) 0 (n + 12)) (.slice (some ⟨w1.heap.size, 0, none⟩) 6 6) rfl rfl HR2.out ?_
  clear HR2 HMK HE
  go_wp2_with fail
  refine KH.out.mono ?_
  rintro e w3 ⟨rfl, hg3⟩
  have et : ((hd6 k n).drop 2).take 4 = (hd6 k n).drop 2 := rfl
  rw [et]
  obtain ⟨hs2, hg2, hf2⟩ := HS2.out
  -- the head's sum
  have hA4 := (G.refl w3).alloc (.cells (eB.fl [(sumF 255 (0, 0) ((hd6 k n).drop 2)).2, (sumF 255 (0, 0) ((hd6 k n).drop 2)).1]).toArray 89)
  obtain ⟨v5, w5, hr5, hs5, hg5, hf5⟩ := grow_B 23 (hs2.G (hg3.trans hA4)) (Row.lit w3 89 [(sumF 255 (0, 0) ((hd6 k n).drop 2)).2, (sumF 255 (0, 0) ((hd6 k n).drop 2)).1] 2 (by simp)) (hg2.trans (hg3.trans hA4)) hf2 (by simp [hd6])
  have hs5' : SwB w5 v5 (hd8 k n) := hs5
  have hnl := HNN.out
  have hhn := HN.out
  obtain ⟨v6, w6, hr6, hs6, hg6, hf6⟩ := grow_B 23 hs5' (HH.out.G hg5) hg5 hf5 (by rw [hd8_len, ← hnl]; omega)
  have hby : By (hd8 k n ++ b) := (hd8_by k n HK.out hhn).app HB.out
  have KH2 := hide (whole_any (hd8 k n ++ b) v6 w6 hs6.toRow hby (by rw [List.length_append, hd8_len, ← hnl]; omega) (by rw [List.length_append, hd8_len]; omega))
  have HS6 := hide (And.intro hs6 (And.intro hg6 hf6))
  have HR5 := hide hr5
  have HR6 := hide hr6
  rw [← hnl] at HR6
  have HL6 : Hid ((hd8 k n ++ b).length ≤ 2097160) := by show _ ≤ _; rw [List.length_append, hd8_len, ← hnl]; omega
  clear hg3 et hs2 hg2 hf2 hA4 hr5 hs5 hg5 hf5 hs5' hnl hhn hr6 hs6 hg6 hf6 hby HS2 KH HH
  generalize sumF 255 (0, 0) ((hd6 k n).drop 2) = sh at HR5 ⊢
  have hB := Blk.new w3 [bv 0, bv 0] 89
  have hc := hB.cell
  have hf := hB.frozen
  clear hB
  go_wp2_with (first | (at_builtin; refine wpList_append_run rfl _ _ 23 rfl v2 (.slice (some ⟨w3.heap.size, 0, none⟩) 2 2) rfl rfl HR5.out ?_) | (at_builtin; refine wpList_append_run rfl _ _ 23 rfl v5 (.slice p n cap) rfl rfl HR6.out ?_) | fail)
  refine KH2.out.mono ?_
  rintro e w7 ⟨rfl, hg7⟩
  obtain ⟨hs6, hg6, hf6⟩ := HS6.out
  have hA8 := (G.refl w7).alloc (.cells (eB.fl (tl4 (hd8 k n ++ b))).toArray 91)
  have hl6 := HL6.out
  obtain ⟨v9, w9, hr9, hs9, hg9, hf9⟩ := grow_B 23 (hs6.G (hg7.trans hA8)) (Row.lit w7 91 (tl4 (hd8 k n ++ b)) 4 (by simp [tl4])) (hg6.trans (hg7.trans hA8)) hf6 (by simp only [tl4, List.length_cons, List.length_nil]; omega)
  have HR9 := hide hr9
  have HF : Hid (∃ u, v9 = u ∧ SwB w9 u (frB k b) ∧ G W w9 ∧ Fresh W u) := ⟨_, rfl, by rw [frB, ← HNN.out]; exact hs9, hg9, hf9⟩
  clear hg7 hs6 hg6 hf6 hA8 hl6 hr9 hs9 hg9 hf9 HS6 HL6 KH2 HR5 HR6 hc hf
  unfold tl4 at HR9
  generalize sumF 65521 (1, 0) ((hd8 k n ++ b).drop 2) = sw at HR9 ⊢
  have hB := Blk.new w7 [bv 0, bv 0, bv 0, bv 0] 91
  have hc := hB.cell
  have hf := hB.frozen
  clear hB
  go_wp2_with (first | (at_builtin; refine wpList_append_run rfl _ _ 23 rfl v6 (.slice (some ⟨w7.heap.size, 0, none⟩) 4 4) rfl rfl HR9.out ?_) | fail)
  go_ret
  obtain ⟨u, rfl, r1, r2, r3⟩ := HF.out
  exact ⟨_, rfl, r1, r2, r3⟩
end
open Go.RowKit

/-- What Frame answers. -/
def frC (k : Int) (n : Nat) : Nat := if k < 1 ∨ 255 < k then 162 else if 2097152 < n then 163 else 0
def frL (k : Int) (b : List Nat) : List Nat := if frC k b.length = 0 then frB k.toNat b else []
def FrP (k : Int) (b : List Nat) (W : World) (e : Ending) (W' : World) : Prop := ∃ v', e = .returned (.tuple #[v', I (frC k b.length)]) ∧ SwB W' v' (frL k b) ∧ G W W' ∧ Fresh W v'
theorem FrP.bad (k : Int) (b : List Nat) (W : World) (c : Nat) (h : frC k b.length = c) (hc : c ≠ 0) : FrP k b W (.returned (.tuple #[.slice none 0 0, I c])) W :=
  ⟨_, by rw [h], by rw [frL, h, if_neg hc]; exact Sw.nil _ _ _, G.refl _, Fresh.nil _⟩
theorem Row.sub {α : Type} {R : Rel α} {w : World} {g o n cap : Nat} {l : List α} (h : Row R w (.slice (some ⟨g, o, none⟩) n cap) l) (lo m : Nat) (hl : lo + m ≤ l.length) : Row R w (.slice (some ⟨g, o + lo * R.s, none⟩) m (cap - lo)) ((l.drop lo).take m) := by
  obtain ⟨p, c, e, hc, hn, hr⟩ := h
  cases e
  have hll : ((l.drop lo).take m).length = m := by simp; omega
  refine ⟨some ⟨g, o + lo * R.s, none⟩, cap - lo, by rw [hll], by rw [hll]; omega, (fun q => by cases q), fun i x hx => ?_⟩
  rw [List.getElem?_take] at hx
  split at hx
  · rw [List.getElem?_drop] at hx
    obtain ⟨g', o', cs, q, h2, h3⟩ := hr (lo + i) x hx
    cases q
    refine ⟨g, o + lo * R.s, cs, rfl, h2, ?_⟩
    rw [Nat.add_mul, ← Nat.add_assoc] at h3
    exact h3
  · cases hx
theorem Sw.lit {α : Type} {E : Enc α} {ty : TypeId} (w : World) (l : List α) (hm : l.length ≤ maxLen) : Sw E ty (w.alloc (.cells (E.fl l).toArray ty)) (.slice (some ⟨w.heap.size, 0, none⟩) l.length l.length) l :=
  .inr ⟨w.heap.size, l.length, [], rfl, by simpa using Blk.new w (E.fl l) ty, by simp, Nat.le_refl _, hm⟩
theorem Fresh.new (W : World) (n c : Nat) {w : World} (g : G W w) : Fresh W (.slice (some ⟨w.heap.size, 0, none⟩) n c) := fun k e => by simp [Value.ownBlock] at e; have := g.size; omega
set_option maxRecDepth 100000 in
set_option maxHeartbeats 1000000 in
theorem frame_any (k : Int) (b : List Nat) (v : Value) (W : World) (h : Rb W v b) (hb : By b) (hn : b.length ≤ 140737488355328) :
    Calls Tryz.prog 7 #[I k, v] W (FrP k b W) := by
  obtain ⟨p, cap, rfl⟩ := h.form
  by_cases c1 : k < 1
  · have HC : Hid (frC k b.length = 162) := by show _ = _; unfold frC; rw [if_pos (.inl c1)]
    have d1 := decide_eq_true c1
    have HF := hide (FrP.bad k b W 162 HC.out (by decide))
    clear h hb hn HC
    go_enter Tryz.func7, Tryz.ntmps7
    go_wp2_with fail
    go_ret2
    exact HF.out
  · have d1 := decide_eq_false c1
    by_cases c2 : 255 < k
    · have HC : Hid (frC k b.length = 162) := by show _ = _; unfold frC; rw [if_pos (.inr c2)]
      have d2 := decide_eq_true c2
      have HF := hide (FrP.bad k b W 162 HC.out (by decide))
      clear h hb hn HC
      go_enter Tryz.func7, Tryz.ntmps7
      go_wp2_with fail
      go_ret2
      exact HF.out
    · have d2 := decide_eq_false c2
      by_cases c3 : 2097152 < b.length
      · have HC : Hid (frC k b.length = 163) := by show _ = _; unfold frC; rw [if_neg (by omega), if_pos c3]
        have i3 : (2097152 : Int) < (b.length : Int) := by omega
        have HF := hide (FrP.bad k b W 163 HC.out (by decide))
        clear h hb hn HC c3
        go_enter Tryz.func7, Tryz.ntmps7
        go_wp2_with fail
        go_ret2
        exact HF.out
      · have HC : Hid (frC k b.length = 0) := by show _ = _; unfold frC; rw [if_neg (by omega), if_neg c3]
        have i3 : ¬ (2097152 : Int) < (b.length : Int) := by omega
        obtain ⟨kn, rfl⟩ : ∃ kn : Nat, k = kn := ⟨k.toNat, by omega⟩
        have hkb : kn < 256 := by omega
        have u1 : (kn : Int) % 256 = (kn : Int) := by omega
        have KF := hide (framed_any kn b _ W h hb hkb (by omega))
        have HL : Hid (frL (kn : Int) b = frB kn b) := by show _ = _; unfold frL; rw [if_pos HC.out]; rfl
        clear h hb hn c3 hkb
        go_enter Tryz.func7, Tryz.ntmps7
        go_wp2_with fail
        refine KF.out.mono ?_
        rintro e w1 ⟨v', rfl, hs, hg, hf⟩
        have HR := hide (And.intro hs (And.intro hg hf))
        clear hs hg hf KF
        go_wp2_with fail
        go_ret2
        exact ⟨_, by rw [HC.out]; rfl, by rw [HL.out]; exact HR.out.1, HR.out.2.1, HR.out.2.2⟩
set_option maxRecDepth 100000 in
set_option maxHeartbeats 1000000 in
theorem rframe_any (k : Int) (b : List Nat) (v : Value) (W : World) (h : Rb W v b) (hb : By b) (hn : b.length ≤ 140737488355328) :
    Calls Tryz.prog 37 #[I k, v] W (FrP k b W) := by
  obtain ⟨p, cap, rfl⟩ := h.form
  by_cases c1 : k < 1
  · have HC : Hid (frC k b.length = 162) := by show _ = _; unfold frC; rw [if_pos (.inl c1)]
    have d1 := decide_eq_true c1
    have HF := hide (FrP.bad k b W 162 HC.out (by decide))
    clear h hb hn HC
    go_enter Tryz.func37, Tryz.ntmps37
    go_wp2_with fail
    go_ret2
    exact HF.out
  · have d1 := decide_eq_false c1
    by_cases c2 : 255 < k
    · have HC : Hid (frC k b.length = 162) := by show _ = _; unfold frC; rw [if_pos (.inr c2)]
      have d2 := decide_eq_true c2
      have HF := hide (FrP.bad k b W 162 HC.out (by decide))
      clear h hb hn HC
      go_enter Tryz.func37, Tryz.ntmps37
      go_wp2_with fail
      go_ret2
      exact HF.out
    · have d2 := decide_eq_false c2
      by_cases c3 : 2097152 < b.length
      · have HC : Hid (frC k b.length = 163) := by show _ = _; unfold frC; rw [if_neg (by omega), if_pos c3]
        have i3 : (2097152 : Int) < (b.length : Int) := by omega
        have HF := hide (FrP.bad k b W 163 HC.out (by decide))
        clear h hb hn HC c3
        go_enter Tryz.func37, Tryz.ntmps37
        go_wp2_with fail
        go_ret2
        exact HF.out
      · have HC : Hid (frC k b.length = 0) := by show _ = _; unfold frC; rw [if_neg (by omega), if_neg c3]
        have i3 : ¬ (2097152 : Int) < (b.length : Int) := by omega
        obtain ⟨kn, rfl⟩ : ∃ kn : Nat, k = kn := ⟨k.toNat, by omega⟩
        have hkb : kn < 256 := by omega
        have u1 : (kn : Int) % 256 = (kn : Int) := by omega
        have hA1 := (G.refl W).alloc (.cells (eB.fl (hd6 kn b.length)).toArray 5)
        have hs1 := Sw.lit (E := eB) (ty := 5) W (hd6 kn b.length) (of_decide_eq_true (by kernel_rfl))
        have hf1 : Fresh W (.slice (some ⟨W.heap.size, 0, none⟩) 6 6) := Fresh.new W 6 6 (G.refl W)
        have hrow := (Row.sub (hs1.toRow) 2 4 (by simp [hd6]))
        have KH := hide (rhead_any _ _ _ hrow (fun x hx => hd6_by kn _ hkb (by omega) x (List.mem_of_mem_drop (List.mem_of_mem_take hx))) (by simp [hd6]))
        have HS := hide (And.intro hs1 (And.intro hA1 hf1))
        have HL : Hid (frL (kn : Int) b = frB kn b) := by show _ = _; unfold frL; rw [if_pos HC.out]; rfl
        have HH := hide h
        have HB := hide hb
        have HK := hide hkb
        have HN : Hid (b.length ≤ 2097152) := by show _ ≤ _; omega
        have q1 : ¬ (b.length : Int) < 0 := by omega
        obtain ⟨n, hnn⟩ : ∃ n, n = b.length := ⟨_, rfl⟩
        rw [← hnn] at KH HS HN q1 i3 ⊢
        have HNN := hide hnn
        have e3 : ((n : Int).tdiv 65536) % 256 = ((n / 65536 : Nat) : Int) := by rw [Int.tdiv_eq_ediv_of_nonneg (by omega)]; have := HN.out; omega
        have e4 : (((n : Int).tdiv 256).tmod 256) % 256 = ((n / 256 % 256 : Nat) : Int) := by rw [Int.tdiv_eq_ediv_of_nonneg (by omega), Int.tmod_eq_emod_of_nonneg (by omega)]; omega
        have e5 : ((n : Int).tmod 256) % 256 = ((n % 256 : Nat) : Int) := by rw [Int.tmod_eq_emod_of_nonneg (by omega)]; omega
        have HE := hide (And.intro e3 (And.intro e4 e5))
        clear h hb hn c3 hkb hA1 hs1 hf1 hrow hnn q1 e3 e4 e5
        go_enter Tryz.func37, Tryz.ntmps37
        go_wp2_with fail
        refine KH.out.mono ?_
        rintro e w2 ⟨rfl, hg2⟩
        obtain ⟨hs1, hg1, hf1⟩ := HS.out
        have hs2 := hs1.G hg2
        have hgg := hg1.trans hg2
        have et : ((hd6 kn n).drop 2).take 4 = (hd6 kn n).drop 2 := rfl
        rw [et]
        have hA3 := (G.refl w2).alloc (.cells (eB.fl [(sumF 255 (0, 0) ((hd6 kn n).drop 2)).2, (sumF 255 (0, 0) ((hd6 kn n).drop 2)).1]).toArray 5)
        obtain ⟨v5, w5, hr5, hs5, hg5, hf5⟩ := grow_B 23 (hs2.G hA3) (Row.lit w2 5 [(sumF 255 (0, 0) ((hd6 kn n).drop 2)).2, (sumF 255 (0, 0) ((hd6 kn n).drop 2)).1] 2 (by simp)) (hgg.trans hA3) hf1 (by simp [hd6])
        have hs5' : SwB w5 v5 (hd8 kn n) := hs5
        have hnl := HNN.out
        have hhn := HN.out
        obtain ⟨v6, w6, hr6, hs6, hg6, hf6⟩ := grow_B 23 hs5' (HH.out.G hg5) hg5 hf5 (by rw [hd8_len, ← hnl]; omega)
        have hby : By (hd8 kn n ++ b) := (hd8_by kn n HK.out hhn).app HB.out
        have hl6 : (hd8 kn n ++ b).length = n + 8 := by rw [List.length_append, hd8_len, ← hnl]; omega
        obtain ⟨g6, c6, e6⟩ := hs6.slice (by omega)
        rw [hl6] at e6
        have hc6 : n + 8 ≤ c6 := by
          rw [e6] at hs6
          obtain ⟨-, rest, -, -, q, -⟩ := hs6.open
          omega
        have hrow6 := hs6.toRow
        rw [e6] at hrow6 hr6
        have hrow6' := Row.sub hrow6 2 (n + 6) (by omega)
        have ed : ((hd8 kn n ++ b).drop 2).take (n + 6) = (hd8 kn n ++ b).drop 2 := List.take_of_length_le (by rw [List.length_drop]; omega)
        rw [ed] at hrow6'
        have KH2 := hide (rwhole_any _ _ w6 hrow6' (fun x hx => hby x (List.mem_of_mem_drop hx)) (by rw [List.length_drop, hl6]; omega))
        have HS6 := hide (And.intro hs6 (And.intro hg6 hf6))
        have HR5 := hide hr5
        have HR6 := hide hr6
        rw [← hnl] at HR6
        have n6 : ¬ c6 = 2 := by omega
        have n7 : 2 ≤ c6 := by omega
        clear hg2 et hs1 hg1 hf1 hs2 hgg hA3 hr5 hs5 hg5 hf5 hs5' hnl hhn hr6 hs6 hg6 hf6 hby HS KH HH hrow6 hrow6' ed hc6
        generalize sumF 255 (0, 0) ((hd6 kn n).drop 2) = sh at HR5 ⊢
        have HE6 := hide e6
        clear e6
        go_wp2_with (first | (at_builtin; refine wpList_append_run rfl _ _ 23 rfl (.slice (some ⟨W.heap.size, 0, none⟩) 6 6) (.slice (some ⟨w2.heap.size, 0, none⟩) 2 2) rfl rfl HR5.out ?_) | (at_builtin; refine wpList_append_run rfl _ _ 23 rfl v5 (.slice p n cap) rfl rfl HR6.out ?_) | fail)
        refine KH2.out.mono ?_
        rintro e w7 ⟨rfl, hg7⟩
        obtain ⟨hs6, hg6, hf6⟩ := HS6.out
        have hA8 := (G.refl w7).alloc (.cells (eB.fl (tl4 (hd8 kn n ++ b))).toArray 5)
        obtain ⟨v9, w9, hr9, hs9, hg9, hf9⟩ := grow_B 23 (hs6.G (hg7.trans hA8)) (Row.lit w7 5 (tl4 (hd8 kn n ++ b)) 4 (by simp [tl4])) (hg6.trans (hg7.trans hA8)) hf6 (by simp only [tl4, List.length_cons, List.length_nil]; have := HN.out; omega)
        rw [HE6.out] at hr9
        have HF : Hid (∃ u, v9 = u ∧ SwB w9 u (frB kn b) ∧ G W w9 ∧ Fresh W u) := ⟨_, rfl, by rw [frB, ← HNN.out]; exact hs9, hg9, hf9⟩
        obtain ⟨b1, b2⟩ := sumF_lt 65521 (by decide) ((hd8 kn n ++ b).drop 2) (1, 0) (by decide) (by decide)
        unfold tl4 at hr9
        generalize sumF 65521 (1, 0) ((hd8 kn n ++ b).drop 2) = sw at hr9 b1 b2 ⊢
        obtain ⟨x, hx⟩ : ∃ x : Nat, x = sw.2 * 65536 + sw.1 := ⟨_, rfl⟩
        have y1 : sw.2 / 256 = x / 16777216 % 256 := by omega
        have y2 : sw.2 % 256 = x / 65536 % 256 := by omega
        have y3 : sw.1 / 256 = x / 256 % 256 := by omega
        have y4 : sw.1 % 256 = x % 256 := by omega
        rw [y1, y2, y3, y4] at hr9
        rw [← hx]
        have HR9 := hide hr9
        clear hg7 hs6 hg6 hf6 hA8 hr9 hs9 hg9 hf9 HS6 KH2 HR5 HR6 y1 y2 y3 y4 b1 b2 hx
        go_wp2_with (first | (at_builtin; refine wpList_append_run rfl _ _ 23 rfl (.slice (some ⟨g6, 0, none⟩) (n + 8) c6) (.slice (some ⟨w7.heap.size, 0, none⟩) 4 4) rfl rfl HR9.out ?_) | fail)
        go_ret2
        obtain ⟨u, rfl, r1, r2, r3⟩ := HF.out
        exact ⟨_, by rw [HC.out]; rfl, by rw [HL.out]; exact r1, r2, r3⟩
end Go.Proofs.YtcdjjmjhdoanlaaGreatDoor
