/- Paths: pathsIds of lists that came in, pathsRoom, pathsStays. -/
import Derived.Test.YtemkilffagjmcaaDoorPz17
import Derived.Test.YtemkilffagjmcaaDoorPl1
namespace Go.Proofs.YtemkilffagjmcaaDoor
open Go.RowKit

theorem wone6 (i : Nat) (h : i ≤ 1048576) : wrap64 ((i : Int) + 1) = (i : Int) + 1 := by unfold wrap64; omega
theorem Ids.cellAt {w : World} {a : Option Addr} {n c : Nat} {l : List Int} (h : Ids w (.slice a n c) l) {k : Nat} {x : Int} (hx : l[k]? = some x) : ∃ b off, a = some ⟨b, off, none⟩ ∧ w.cell? ⟨b, off + k, none⟩ = some (I x) := by
  obtain ⟨a', c', e', -, h1⟩ := h.at_
  simp only [Value.slice.injEq] at e'
  obtain ⟨rfl, -, -⟩ := e'
  rcases h1 with rfl | ⟨b, off, rfl, h2⟩
  · simp at hx
  · exact ⟨b, off, rfl, by rw [h2 k (List.getElem?_eq_some_iff.1 hx).1, List.getElem?_map, hx]; rfl⟩
theorem Rw.ids {lo : Nat} {w : World} {v : Value} {l : List Int} (h : Rw lo 2 1 w v l.length (l.map I)) (hr : ∀ x ∈ l, R64 x) : Ids w v l := by
  refine ⟨?_, hr⟩
  rcases h.2 with ⟨rfl, h0⟩ | ⟨g, cap, cur, rfl, -⟩
  · exact ⟨none, 0, by rw [h0], fun _ => rfl, .inl (List.eq_nil_of_length_eq_zero h0)⟩
  · refine ⟨some ⟨g, 0, none⟩, cap, rfl, fun q => (by cases q), ?_⟩
    by_cases hl : l = []
    · exact .inl hl
    · obtain ⟨g', cap', e, -, hc, -⟩ := Rw.cell h (List.length_pos_iff.2 hl)
      have eg : g = g' := by simp at e; exact e.1
      subst eg
      exact .inr ⟨g, 0, rfl, fun o ho => by rw [Nat.zero_add]; exact hc o (by omega)⟩
set_option maxRecDepth 100000 in
set_option maxHeartbeats 2000000 in
theorem idsI_eq (W : World) (v1 v2 : Value) (l : List Int) (h1 : Ids W v1 l) (h2 : Ids W v2 l) (hb : l.length ≤ 1048576) : Calls Tryd.prog 15 #[v1, v2] W fun e W' => e = .returned (.bool true) ∧ G W W' := by
  obtain ⟨a1, c1, rfl⟩ : ∃ a c, v1 = .slice a l.length c := by obtain ⟨a, c, e, -⟩ := h1.at_; exact ⟨a, c, e⟩
  obtain ⟨a2, c2, rfl⟩ : ∃ a c, v2 = .slice a l.length c := by obtain ⟨a, c, e, -⟩ := h2.at_; exact ⟨a, c, e⟩
  have H1 := hide h1
  have H2 := hide h2
  clear h1 h2
  go_enter Tryd.func15, Tryd.ntmps15
  go_wp2_with fail
  go_loopw [5] (fun iv wr => ∃ k : Nat, iv = I k ∧ k ≤ l.length ∧ G W wr) (fun iv _ => l.length - (RowKit.intOf iv).toNat)
  case atStart => exact ⟨0, rfl, Nat.zero_le _, G.refl _⟩
  case round =>
    obtain ⟨k, rfl, hk, hg⟩ := hrel
    by_cases hkl : k < l.length
    · have hkI : (k : Int) < l.length := Int.ofNat_lt.2 hkl
      obtain ⟨x, hx⟩ : ∃ x, l[k]? = some x := ⟨_, List.getElem?_eq_getElem hkl⟩
      obtain ⟨b1, o1, rfl, y1⟩ := (H1.out.G hg).cellAt hx
      obtain ⟨b2, o2, rfl, y2⟩ := (H2.out.G hg).cellAt hx
      have hw : wrap64 ((k : Int) + 1) = (k : Int) + 1 := wone6 k (by omega)
      have HKL := hide hkl
      have HG := hide hg
      clear hx hkl hg
      go_wp2_with fail
      go_quiet (fail)
      go_wp2_with fail
      go_roundw
      case rel => exact ⟨k + 1, by simp, HKL.out, HG.out.trans (g_drewN _ _)⟩
      case measure => simp only [RowKit.intOf]; have := HKL.out; omega
    · have hkI : ¬ ((k : Int) < l.length) := fun h => hkl (Int.ofNat_lt.1 h)
      have HG := hide hg
      clear hg
      go_wp2_with fail
      go_ret
      exact ⟨rfl, HG.out⟩
set_option maxRecDepth 100000 in
set_option maxHeartbeats 2000000 in
theorem room_any (W : World) (v : Value) (l : List Int) (h : Ids W v l) (hl : l.length ≤ 1048576) : Calls Tryd.prog 12 #[v] W fun e W' => ∃ v', e = .returned v' ∧ Rw W.heap.size 2 1 W' v' (l.length + 2) ((l ++ [-81, -82]).map I) ∧ G W W' := by
  have HC := hide (copy_any W v l h (by omega))
  clear h
  go_enter Tryd.func12, Tryd.ntmps12
  go_wp2_with fail
  refine HC.out.mono ?_
  rintro e w1 ⟨ov, rfl, hr, hg⟩
  obtain ⟨oa, oc, rfl⟩ := Rw.form hr
  have gA : G w1 (w1.alloc (.cells #[I (-81), I (-82)] 2)) := (G.refl w1).alloc _
  obtain ⟨v', w', q1, q2, q3, q4⟩ := app_I (w1.alloc (.cells #[I (-81), I (-82)] 2)) W.heap.size (.slice oa l.length oc) l.length (l.map I) (Rw.G hr gA) ⟨w1.heap.size, 0, none⟩ 2 2 [I (-81), I (-82)] rfl (fun j u hj => by rw [Addr.add_mid, Nat.zero_add, (Blk.new w1 [I (-81), I (-82)] 2).cell]; exact hj) (fun u hu => by simp at hu; rcases hu with rfl | rfl <;> rfl) (by omega) (Nat.le_trans hg.size gA.size)
  have HRUN := hide q1
  have HROW : Hid (Rw W.heap.size 2 1 w' v' (l.length + 2) ((l ++ [-81, -82]).map I)) := by
    show Rw _ _ _ _ _ _ _
    rw [List.map_append]
    exact q2
  have HG : Hid (G W w') := (hg.trans gA).trans' q3 (fun b e => (Rw.own (Rw.G hr gA) e).1)
  clear hr hg gA q1 q2 q3 q4 HC
  go_wp2_with (first | (at_builtin; refine wpList_append_run rfl _ _ 23 rfl (.slice oa l.length oc) (.slice (some ⟨w1.heap.size, 0, none⟩) 2 2) rfl rfl HRUN.out ?_) | fail)
  go_ret
  exact ⟨_, rfl, HROW.out, HG.out⟩
set_option maxRecDepth 100000 in
set_option maxHeartbeats 2000000 in
theorem stays_any (lo : Nat) (W : World) (fv v : Value) (l : List Int) (hf : Rw lo 2 1 W fv (l.length + 2) ((l ++ [-81, -82]).map I)) (h : Ids W v l) (hl : l.length ≤ 1048576) : Calls Tryd.prog 17 #[fv, v] W fun e W' => e = .returned (.bool true) ∧ G W W' := by
  obtain ⟨g, cap, rest, rfl, -, hblk, hlen⟩ := Rw.blk hf (by omega)
  have hcap : l.length + 2 ≤ cap := by
    rcases hf.2 with ⟨e, -⟩ | ⟨g', cap', cur, e, -, -, h1, -⟩
    · cases e
    · simp only [Value.slice.injEq] at e
      omega
  obtain ⟨la, lc, rfl⟩ : ∃ a c, v = .slice a l.length c := by obtain ⟨a, c, e, -⟩ := h.at_; exact ⟨a, c, e⟩
  have hI1 : Ids W (.slice (some ⟨g, 0, none⟩) l.length cap) l := ⟨⟨_, cap, rfl, fun q => (by cases q), .inr ⟨g, 0, rfl, fun o ho => by
    rw [hblk.cell, Nat.zero_add, List.getElem?_append_left (by rw [List.length_map, List.length_append]; omega), List.map_append, List.getElem?_append_left (by rw [List.length_map]; exact ho)]⟩⟩, h.ok⟩
  have HID := hide (idsI_eq W _ _ l hI1 h hl)
  have HC1 : Hid (∀ V, G W V → V.cell? ⟨g, l.length, none⟩ = some (I (-81)) ∧ V.cell? ⟨g, l.length + 1, none⟩ = some (I (-82))) := fun V gV => by
    have hb := (hblk.G gV).cell
    refine ⟨?_, ?_⟩
    · rw [hb, List.getElem?_append_left (by rw [List.length_map, List.length_append]; simp), List.map_append, List.getElem?_append_right (by rw [List.length_map]; omega)]
      simp
    · rw [hb, List.getElem?_append_left (by rw [List.length_map, List.length_append]; simp), List.map_append, List.getElem?_append_right (by rw [List.length_map]; omega)]
      simp
  have hw1 : wrap64 ((l.length : Int) + 1) = (l.length : Int) + 1 := wone6 _ hl
  have i1 : (l.length : Int) ≤ (cap : Int) := by omega
  have i2 : (l.length : Int) < ((l.length + 2 : Nat) : Int) := by omega
  have i3 : (l.length : Int) + 1 < ((l.length + 2 : Nat) : Int) := by omega
  clear hf h hblk hlen hI1
  go_enter Tryd.func17, Tryd.ntmps17
  go_wp2_with fail
  refine HID.out.mono ?_
  rintro e w1 ⟨rfl, hg⟩
  obtain ⟨c1, c2⟩ := HC1.out w1 hg
  have HG := hide hg
  clear hg HID
  go_wp2_with fail
  go_ret
  exact ⟨rfl, HG.out⟩
/-- A world, cut off at a block. -/
def cutW (w : World) (m : Nat) : World := { w with heap := w.heap.extract 0 m }
theorem cut_size {w : World} {m : Nat} (h : m ≤ w.heap.size) : (cutW w m).heap.size = m := by
  show (w.heap.extract 0 m).size = m
  rw [Array.size_extract]
  omega
theorem cut_at {w : World} {m k : Nat} (h : k < m) : (cutW w m).heap[k]? = w.heap[k]? := by
  show (w.heap.extract 0 m)[k]? = _
  rw [Array.getElem?_extract]
  simp
  intro h2
  omega
theorem cut_G {w : World} {m : Nat} (h : m ≤ w.heap.size) : G (cutW w m) w := ⟨rfl, rfl, rfl, by rw [cut_size h]; exact h, fun k hk => by rw [cut_size h] at hk; rw [cut_at hk]⟩
theorem cut_to {W w w' : World} {m : Nat} (h : m ≤ w.heap.size) (hW : W.heap.size ≤ m) (g : G W w) (g' : G (cutW w m) w') : G W w' := by
  refine ⟨g'.os.trans g.os, g'.tape.trans g.tape, g'.output.trans g.output, ?_, fun k hk => ?_⟩
  · have := g'.size
    rw [cut_size h] at this
    omega
  · rw [g'.block k (by rw [cut_size h]; omega), cut_at (by omega), g.block k hk]
theorem cut_rw {w w' : World} {m lo n : Nat} {e : TypeId} {v : Value} {xs : List Value} (h : m ≤ w.heap.size) (g' : G (cutW w m) w') (hr : Rw lo e 1 w v n xs) (hb : ∀ b, v.ownBlock = some b → b < m) : Rw lo e 1 w' v n xs := hr.keep (fun b hv => by
  rw [g'.block b (by rw [cut_size h]; exact hb b hv), cut_at (hb b hv)])
end Go.Proofs.YtemkilffagjmcaaDoor
