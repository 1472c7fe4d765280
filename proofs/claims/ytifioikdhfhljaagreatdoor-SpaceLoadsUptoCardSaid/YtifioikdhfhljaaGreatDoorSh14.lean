/- Graphs: what is handed in. -/
import Derived.Test.YtifioikdhfhljaaGreatDoorSh13
namespace Go.Proofs.YtifioikdhfhljaaGreatDoor
open Go.RowKit

/-- The first i are cut, the rest not yet. -/
def hL {α : Type} (f : α → α) (l m : List α) (i : Nat) : List α := l.take i ++ ((l.drop i).map f ++ m)
theorem hL_at {α : Type} {f : α → α} {l m : List α} {i : Nat} {x : α} (h : l[i]? = some x) : (hL f l m i)[i]? = some (f x) := by
  obtain ⟨hi, rfl⟩ := List.getElem?_eq_some_iff.1 h
  have h1 : (l.take i).length = i := by rw [List.length_take]; omega
  unfold hL
  rw [List.drop_eq_getElem_cons hi, List.getElem?_append_right (by omega), h1, Nat.sub_self]
  rfl
theorem hL_set {α : Type} {f : α → α} {l m : List α} {i : Nat} {x : α} (h : l[i]? = some x) : (hL f l m i).set i x = hL f l m (i + 1) := by
  obtain ⟨hi, rfl⟩ := List.getElem?_eq_some_iff.1 h
  have h1 : (l.take i).length = i := by rw [List.length_take]; omega
  unfold hL
  rw [List.drop_eq_getElem_cons hi, List.set_append_right _ _ (by omega), h1, Nat.sub_self, List.take_add_one, List.getElem?_eq_getElem hi]
  simp only [List.map_cons, List.cons_append, List.set_cons_zero, Option.toList_some, List.append_assoc, List.nil_append]
theorem hL_all {α : Type} {f : α → α} {l m : List α} {i : Nat} (h : l.length ≤ i) : hL f l m i = l ++ m := by
  unfold hL
  rw [List.take_of_length_le h, List.drop_of_length_le h]
  rfl
theorem rooms_take (l : List Pv) : (rooms l).take l.length = l := by simp [rooms]
set_option maxRecDepth 100000 in
set_option maxHeartbeats 4000000 in
theorem shanded_any (ns : List Nd) (es : List Ed) (na : Option Addr) (nn nc : Nat) (ea : Option Addr) (en ec : Nat) (lo0 : Nat) (W0 W : World) (h1 : NRow (dNf lo0) 69 W (.slice na nn nc) (ns.map Nd.full ++ ndM)) (h2 : NRow (dEf lo0) 72 W (.slice ea en ec) (es.map Ed.full ++ edM)) (hs : SmB ns es) (hg : G W0 W) (hf1 : Fresh W0 (.slice na nn nc)) (hf2 : Fresh W0 (.slice ea en ec)) :
    Calls Tryz.prog 9 #[.agg #[.slice na nn nc, .slice ea en ec]] W fun e W' => e = .returned (.agg #[.slice na ns.length nc, .slice ea es.length ec]) ∧ NRow (dNf lo0) 69 W' (.slice na nn nc) (ns ++ ndM) ∧ NRow (dEf lo0) 72 W' (.slice ea en ec) (es ++ edM) ∧ Fx [69, 72, 25] [] W W' ∧ G W0 W' ∧ ∀ k xs, Blk W k 25 xs → Blk W' k 25 xs := by
  have hnn : nn = ns.length + 2 := by have := h1.len_eq; simp [ndM] at this; omega
  have hen : en = es.length + 2 := by have := h2.len_eq; simp [edM] at this; omega
  obtain ⟨ga, _, rfl, hnc, -⟩ := h1.at (i := ns.length) (x := ndM[0]) (by rw [List.getElem?_append_right (by simp)]; simp [ndM])
  obtain ⟨ge, _, rfl, hec, -⟩ := h2.at (i := es.length) (x := edM[0]) (by rw [List.getElem?_append_right (by simp)]; simp [edM])
  obtain ⟨kn, hkn⟩ : ∃ kn, kn = ns.length := ⟨_, rfl⟩
  obtain ⟨ke, hke⟩ : ∃ ke, ke = es.length := ⟨_, rfl⟩
  rw [← hkn, ← hke]
  obtain ⟨w2, hw2⟩ : ∃ w2, w2 = ((W.alloc (.cells #[.slice (some ⟨ga, 0, none⟩) nn nc, .slice (some ⟨ge, 0, none⟩) en ec] 25)).alloc (.cells #[.slice none 0 0, .slice none 0 0] 25)) := ⟨_, rfl⟩
  obtain ⟨B1, hB1⟩ : ∃ B1, B1 = W.heap.size := ⟨_, rfl⟩
  obtain ⟨B2, hB2⟩ : ∃ B2, B2 = B1 + 1 := ⟨_, rfl⟩
  obtain ⟨B3, hB3⟩ : ∃ B3, B3 = B2 + 1 := ⟨_, rfl⟩
  have hgw : G W w2 := by rw [hw2]; exact ((G.refl W).alloc _).alloc _
  have hb1 : Blk w2 B1 25 [.slice (some ⟨ga, 0, none⟩) nn nc, .slice (some ⟨ge, 0, none⟩) en ec] := by rw [hw2, hB1]; exact (Blk.new W [.slice (some ⟨ga, 0, none⟩) nn nc, .slice (some ⟨ge, 0, none⟩) en ec] 25).G ((G.refl _).alloc _)
  have hb2 : Blk w2 B2 25 [.slice none 0 0, .slice none 0 0] := by
    have := Blk.new (W.alloc (.cells #[.slice (some ⟨ga, 0, none⟩) nn nc, .slice (some ⟨ge, 0, none⟩) en ec] 25)) [.slice none 0 0, .slice none 0 0] 25
    rw [hw2, hB2, hB1]
    simpa using this
  have hsz : w2.heap.size = B3 := by rw [hw2, hB3, hB2, hB1]; simp
  have hsn := hs.n
  have hse := hs.e
  have hw1 : wrap64 ((nn : Int) - 2) = (kn : Int) := by unfold wrap64; omega
  have hw2' : wrap64 ((en : Int) - 2) = (ke : Int) := by unfold wrap64; omega
  have hv1 : IntKind.i64.wrap ((nn : Int) - 2) = (kn : Int) := by rw [Go.PlainAid.i64_is]; exact hw1
  have hv2 : IntKind.i64.wrap ((en : Int) - 2) = (ke : Int) := by rw [Go.PlainAid.i64_is]; exact hw2'
  have hsl1 : (kn : Int) ≤ (nc : Int) := by omega
  have hsl2 : (ke : Int) ≤ (ec : Int) := by omega
  have HEW : Hid (((W.alloc (.cells #[.slice (some ⟨ga, 0, none⟩) nn nc, .slice (some ⟨ge, 0, none⟩) en ec] 25)).alloc (.cells #[.slice none 0 0, .slice none 0 0] 25)) = w2) := hw2.symm
  have HE1 : Hid (W.heap.size = B1) := hB1.symm
  have HE2 : Hid (B1 + 1 = B2) := hB2.symm
  have HSZ : Hid (w2.heap.size = B3) := hsz
  have HSM : Hid (nn = kn + 2 ∧ en = ke + 2 ∧ kn ≤ 1048576 ∧ ke ≤ 1048576) := ⟨by omega, by omega, by omega, by omega⟩
  have HL : Hid (kn = ns.length ∧ ke = es.length) := ⟨hkn, hke⟩
  have HSP : Hid ((∀ x ∈ ns, x.ps.length ≤ 1048576) ∧ ∀ x ∈ es, x.ps.length ≤ 1048576) := ⟨hs.p, hs.q⟩
  have HB2S : Hid (W0.heap.size ≤ B2) := by show _ ≤ _; have := hg.size; omega
  have HB2W : Hid (W.heap.size ≤ B2) := by show _ ≤ _; omega
  have HB3S : Hid (W0.heap.size ≤ B3) := by show _ ≤ _; have := hg.size; omega
  have HF0 : Hid (W0.heap.size ≤ ga ∧ W0.heap.size ≤ ge) := ⟨hf1 ga rfl, hf2 ge rfl⟩
  have HS := hide (And.intro (h1.G hgw) (h2.G hgw)); have HB1 := hide hb1; have HB2 := hide hb2; have HGW := hide hgw; have HG0 := hide (hg.trans hgw)
  have HB23 : Hid (B2 ≠ B3) := by show _ ≠ _; omega
  clear h1 h2 hs hg hf1 hf2 hnn hen hnc hec hkn hke hw2 hB1 hB2 hB3 hgw hb1 hb2 hsz hsn hse
  go_enter Tryz.func9, Tryz.ntmps9
  go_wp2_with fail
  rw [HEW.out]
  try rw [HE1.out]
  try rw [HE2.out]
  clear HEW HE1 HE2
  refine wp_region_noPanic ?_
  refine wp_region_L (S := (fun V => G w2 V)) 16 (by kernel_rfl) ((G.refl w2).drew) (fun hHeld => ?_)
  refine wpAnyL_take (i := 0) (v := ?_) rfl (by kernel_rfl) (by kernel_rfl) (by kernel_rfl) (by kernel_rfl) (fun _ _ _ h => h) (Or.inl ⟨by rfl, ?_⟩) hHeld ?_
  rotate_left 1
  · (intro w hSw; have q1 := (HB1.out.G hSw).cell; go_simp; try with_reducible rfl)
  try simp only [Act.put, List.getElem_toArray, List.getElem_cons_zero, List.setIfInBounds_toArray, List.set_cons_zero, List.set_cons_succ]
  refine wpAnyL_take (i := 1) (v := ?_) rfl (by kernel_rfl) (by kernel_rfl) (by kernel_rfl) (by kernel_rfl) (fun _ _ _ h => h) (Or.inl ⟨by rfl, ?_⟩) hHeld ?_
  rotate_left 1
  · (intro w hSw; have q1 := (HB1.out.G hSw).cell; go_simp; try with_reducible rfl)
  try simp only [Act.put, List.getElem_toArray, List.getElem_cons_zero, List.getElem_cons_succ, List.setIfInBounds_toArray, List.set_cons_zero, List.set_cons_succ]
  refine wpAnyL_take (i := 2) (v := ?_) rfl (by kernel_rfl) (by kernel_rfl) (by kernel_rfl) (by kernel_rfl) (fun _ _ _ h => h) (Or.inl ⟨by rfl, ?_⟩) hHeld ?_
  rotate_left 1
  · (intro w hSw; have q1 := (HB1.out.G hSw).cell; go_simp; try with_reducible rfl)
  try simp only [Act.put, List.getElem_toArray, List.getElem_cons_zero, List.getElem_cons_succ, List.setIfInBounds_toArray, List.set_cons_zero, List.set_cons_succ]
  refine wpAnyL_take (i := 3) (v := ?_) rfl (by kernel_rfl) (by kernel_rfl) (by kernel_rfl) (by kernel_rfl) (fun _ _ _ h => h) (Or.inl ⟨by rfl, ?_⟩) hHeld ?_
  rotate_left 1
  · (intro w hSw; have q1 := (HB1.out.G hSw).cell; go_simp; try with_reducible rfl)
  try simp only [Act.put, List.getElem_toArray, List.getElem_cons_zero, List.getElem_cons_succ, List.setIfInBounds_toArray, List.set_cons_zero, List.set_cons_succ]
  refine wpAnyL_take (i := 4) (v := ?_) rfl (by kernel_rfl) (by kernel_rfl) (by kernel_rfl) (by kernel_rfl) (fun _ _ _ h => h) (Or.inl ⟨by rfl, ?_⟩) hHeld ?_
  rotate_left 1
  · (intro w hSw; have q1 := (HB1.out.G hSw).cell; go_simp; try with_reducible rfl)
  try simp only [Act.put, List.getElem_toArray, List.getElem_cons_zero, List.getElem_cons_succ, List.setIfInBounds_toArray, List.set_cons_zero, List.set_cons_succ]
  refine wpAnyL_take (i := 5) (v := ?_) rfl (by kernel_rfl) (by kernel_rfl) (by kernel_rfl) (by kernel_rfl) (fun _ _ _ h => h) (Or.inl ⟨by rfl, ?_⟩) hHeld ?_
  rotate_left 1
  · (intro w hSw; have q1 := (HB1.out.G hSw).cell; go_simp; try with_reducible rfl)
  try simp only [Act.put, List.getElem_toArray, List.getElem_cons_zero, List.getElem_cons_succ, List.setIfInBounds_toArray, List.set_cons_zero, List.set_cons_succ]
  refine wpAnyL_take (i := 6) (v := ?_) rfl (by kernel_rfl) (by kernel_rfl) (by kernel_rfl) (by kernel_rfl) (fun _ _ _ h => h) (Or.inl ⟨by rfl, ?_⟩) hHeld ?_
  rotate_left 1
  · (intro w hSw; have q1 := (HB1.out.G hSw).cell; go_simp; try with_reducible rfl)
  try simp only [Act.put, List.getElem_toArray, List.getElem_cons_zero, List.getElem_cons_succ, List.setIfInBounds_toArray, List.set_cons_zero, List.set_cons_succ]
  refine wpAnyL_take (i := 7) (v := ?_) rfl (by kernel_rfl) (by kernel_rfl) (by kernel_rfl) (by kernel_rfl) (fun _ _ _ h => h) (Or.inl ⟨by rfl, ?_⟩) hHeld ?_
  rotate_left 1
  · (intro w hSw; have q1 := (HB1.out.G hSw).cell; go_simp; try with_reducible rfl)
  try simp only [Act.put, List.getElem_toArray, List.getElem_cons_zero, List.getElem_cons_succ, List.setIfInBounds_toArray, List.set_cons_zero, List.set_cons_succ]
  refine wpAnyL_take (i := 8) (v := ?_) rfl (by kernel_rfl) (by kernel_rfl) (by kernel_rfl) (by kernel_rfl) (fun _ _ _ h => h) (Or.inl ⟨by rfl, ?_⟩) hHeld ?_
  rotate_left 1
  · (intro w hSw; have q1 := (HB1.out.G hSw).cell; go_simp; try with_reducible rfl)
  try simp only [Act.put, List.getElem_toArray, List.getElem_cons_zero, List.getElem_cons_succ, List.setIfInBounds_toArray, List.set_cons_zero, List.set_cons_succ]
  refine wpAnyL_take (i := 9) (v := ?_) rfl (by kernel_rfl) (by kernel_rfl) (by kernel_rfl) (by kernel_rfl) (fun _ _ _ h => h) (Or.inl ⟨by rfl, ?_⟩) hHeld ?_
  rotate_left 1
  · (intro w hSw; have q1 := (HB1.out.G hSw).cell; go_simp; try with_reducible rfl)
  try simp only [Act.put, List.getElem_toArray, List.getElem_cons_zero, List.getElem_cons_succ, List.setIfInBounds_toArray, List.set_cons_zero, List.set_cons_succ]
  refine wpAnyL_take (i := 10) (v := ?_) rfl (by kernel_rfl) (by kernel_rfl) (by kernel_rfl) (by kernel_rfl) (fun _ _ _ h => h) (Or.inl ⟨by rfl, ?_⟩) hHeld ?_
  rotate_left 1
  · (intro w hSw; have q1 := (HB1.out.G hSw).cell; go_simp; try with_reducible rfl)
  try simp only [Act.put, List.getElem_toArray, List.getElem_cons_zero, List.getElem_cons_succ, List.setIfInBounds_toArray, List.set_cons_zero, List.set_cons_succ]
  refine wpAnyL_take (i := 11) (v := ?_) rfl (by kernel_rfl) (by kernel_rfl) (by kernel_rfl) (by kernel_rfl) (fun _ _ _ h => h) (Or.inl ⟨by rfl, ?_⟩) hHeld ?_
  rotate_left 1
  · (intro w hSw; have q1 := (HB1.out.G hSw).cell; go_simp; try with_reducible rfl)
  try simp only [Act.put, List.getElem_toArray, List.getElem_cons_zero, List.getElem_cons_succ, List.setIfInBounds_toArray, List.set_cons_zero, List.set_cons_succ]
  refine wpAnyL_take (i := 12) (v := ?_) rfl (by kernel_rfl) (by kernel_rfl) (by kernel_rfl) (by kernel_rfl) (fun _ _ _ h => h) (Or.inl ⟨by rfl, ?_⟩) hHeld ?_
  rotate_left 1
  · (intro w hSw; have q1 := (HB1.out.G hSw).cell; go_simp; try with_reducible rfl)
  try simp only [Act.put, List.getElem_toArray, List.getElem_cons_zero, List.getElem_cons_succ, List.setIfInBounds_toArray, List.set_cons_zero, List.set_cons_succ]
  refine wpAnyL_take (i := 13) (v := ?_) rfl (by kernel_rfl) (by kernel_rfl) (by kernel_rfl) (by kernel_rfl) (fun _ _ _ h => h) (Or.inl ⟨by rfl, ?_⟩) hHeld ?_
  rotate_left 1
  · (intro w hSw; have q1 := (HB1.out.G hSw).cell; go_simp; try with_reducible rfl)
  try simp only [Act.put, List.getElem_toArray, List.getElem_cons_zero, List.getElem_cons_succ, List.setIfInBounds_toArray, List.set_cons_zero, List.set_cons_succ]
  refine wpAnyL_take (i := 14) (v := ?_) rfl (by kernel_rfl) (by kernel_rfl) (by kernel_rfl) (by kernel_rfl) (fun _ _ _ h => h) (Or.inl ⟨by rfl, ?_⟩) hHeld ?_
  rotate_left 1
  · (intro w hSw; have q1 := (HB1.out.G hSw).cell; go_simp; try with_reducible rfl)
  try simp only [Act.put, List.getElem_toArray, List.getElem_cons_zero, List.getElem_cons_succ, List.setIfInBounds_toArray, List.set_cons_zero, List.set_cons_succ]
  refine wpAnyL_one (i := 15) (by kernel_rfl) rfl (by kernel_rfl) (fun K hK => ?_)
  clear hHeld
  (try refine (if_pos rfl).mpr ?_)
  go_simp
  rw [HSZ.out]
  obtain ⟨w4, hw4⟩ : ∃ w4, w4 = (w2.alloc (.cells #[.slice none 0 0, .slice none 0 0] 25)).drew := ⟨_, rfl⟩
  have hB4 : Blk w4 B3 25 [.slice none 0 0, .slice none 0 0] := by rw [hw4, ← HSZ.out]; exact (Blk.new w2 [.slice none 0 0, .slice none 0 0] 25).drew
  have hG4 : G w2 w4 := by rw [hw4]; exact ((G.refl w2).alloc _).drew
  have HB4 := hide hB4
  have HG24 := hide hG4
  rw [← hw4]
  clear hw4 hB4 hG4
  refine hK.out _ _ (HG24.out) (fun hHeld => ?_)
  clear hK K
  try simp only [Act.put, List.getElem_toArray, List.getElem_cons_zero, List.getElem_cons_succ, List.setIfInBounds_toArray, List.set_cons_zero, List.set_cons_succ]
  refine wpAnyL_last (by kernel_rfl) rfl (by kernel_rfl) (fun K hK => ?_)
  clear hHeld
  have hc7 := HB4.out.cell
  have hz7 := HB4.out.frozen
  go_simp
  refine hK.out _ _ ?_
  clear hK K
  refine NoPanic.normal ?_
  have hfx5 : Fx [25] [] w4 ((w4.setCell ⟨B3, 0, none⟩ (.slice (some ⟨ga, 0, none⟩) kn nc)).setCell ⟨B3, 1, none⟩ (.slice (some ⟨ge, 0, none⟩) ke ec)) := (Fx.set HB4.out (by simp) (o := 0) (v := .slice (some ⟨ga, 0, none⟩) kn nc)).trans (Fx.set (HB4.out.set 0 _) (by simp) (o := 1) (v := .slice (some ⟨ge, 0, none⟩) ke ec))
  have hg5 : G w2 ((w4.setCell ⟨B3, 0, none⟩ (.slice (some ⟨ga, 0, none⟩) kn nc)).setCell ⟨B3, 1, none⟩ (.slice (some ⟨ge, 0, none⟩) ke ec)) := (HG24.out.setCell (by rw [HSZ.out]; exact Nat.le_refl _) _).setCell (by rw [HSZ.out]; exact Nat.le_refl _) _
  have HST : Hid (Blk ((w4.setCell ⟨B3, 0, none⟩ (.slice (some ⟨ga, 0, none⟩) kn nc)).setCell ⟨B3, 1, none⟩ (.slice (some ⟨ge, 0, none⟩) ke ec)) B3 25 [.slice (some ⟨ga, 0, none⟩) kn nc, .slice (some ⟨ge, 0, none⟩) ke ec] ∧ Blk ((w4.setCell ⟨B3, 0, none⟩ (.slice (some ⟨ga, 0, none⟩) kn nc)).setCell ⟨B3, 1, none⟩ (.slice (some ⟨ge, 0, none⟩) ke ec)) B2 25 [.slice none 0 0, .slice none 0 0] ∧ NRow (dNf lo0) 69 ((w4.setCell ⟨B3, 0, none⟩ (.slice (some ⟨ga, 0, none⟩) kn nc)).setCell ⟨B3, 1, none⟩ (.slice (some ⟨ge, 0, none⟩) ke ec)) (.slice (some ⟨ga, 0, none⟩) nn nc) (hL Nd.full ns ndM 0) ∧ NRow (dEf lo0) 72 ((w4.setCell ⟨B3, 0, none⟩ (.slice (some ⟨ga, 0, none⟩) kn nc)).setCell ⟨B3, 1, none⟩ (.slice (some ⟨ge, 0, none⟩) ke ec)) (.slice (some ⟨ge, 0, none⟩) en ec) (es.map Ed.full ++ edM) ∧ G W ((w4.setCell ⟨B3, 0, none⟩ (.slice (some ⟨ga, 0, none⟩) kn nc)).setCell ⟨B3, 1, none⟩ (.slice (some ⟨ge, 0, none⟩) ke ec)) ∧ G W0 ((w4.setCell ⟨B3, 0, none⟩ (.slice (some ⟨ga, 0, none⟩) kn nc)).setCell ⟨B3, 1, none⟩ (.slice (some ⟨ge, 0, none⟩) ke ec))) :=
    ⟨(HB4.out.set 0 (.slice (some ⟨ga, 0, none⟩) kn nc)).set 1 (.slice (some ⟨ge, 0, none⟩) ke ec), HB2.out.G hg5, HS.out.1.G hg5, HS.out.2.G hg5, HGW.out.trans hg5, HG0.out.trans hg5⟩
  clear hfx5 hg5 hw1 hw2' hsl1 hsl2 hv1 hv2
  go_wp2_with fail
  generalize ((w4.setCell ⟨B3, 0, none⟩ (.slice (some ⟨ga, 0, none⟩) kn nc)).setCell ⟨B3, 1, none⟩ (.slice (some ⟨ge, 0, none⟩) ke ec)) = wh at HST ⊢
  have HB3 := hide HST.out.1
  have HB2 := hide HST.out.2.1
  have HG4 : Hid (G W wh) := HST.out.2.2.2.2.1
  clear HB4 HG24 HS HB1 HGW HG0
  go_loopw [4] (fun iv wr => ∃ i : Nat, iv = I i ∧ i ≤ ns.length ∧ NRow (dNf lo0) 69 wr (.slice (some ⟨ga, 0, none⟩) nn nc) (hL Nd.full ns ndM i) ∧ NRow (dEf lo0) 72 wr (.slice (some ⟨ge, 0, none⟩) en ec) (es.map Ed.full ++ edM) ∧ Fx [69, 72] [] wh wr ∧ G W0 wr) (fun iv _ => ns.length - (RowKit.intOf iv).toNat)
  case atStart => exact ⟨0, rfl, Nat.zero_le _, HST.out.2.2.1, HST.out.2.2.2.1, Fx.refl _ _ _, HST.out.2.2.2.2.2⟩
  case round =>
    clear HST
    rename_i wr hout
    obtain ⟨i, rfl, hik, hn, he, hfx, hg⟩ := hrel
    have hB3 := HB3.out.fx hfx (by decide)
    have kb3 := hB3.cell
    have hsm := HSM.out
    have hl := HL.out
    by_cases hil : i < ns.length
    · obtain ⟨x, hx⟩ : ∃ x, ns[i]? = some x := ⟨_, List.getElem?_eq_getElem hil⟩
      obtain ⟨g, cs, hga, hcap, ⟨v, hcs, hv, -⟩, -, hcell, xs, hbk⟩ := hn.at (i := i) (x := Nd.full x) (hL_at hx)
      injection hga with hga
      injection hga with hga
      subst hga
      have x1 := hcell 2 (Nat.lt_succ_self _)
      rw [hcs] at x1
      obtain ⟨pa, pc, hvf⟩ := hv.form
      obtain ⟨pk, hpk⟩ : ∃ pk, pk = x.ps.length := ⟨_, rfl⟩
      obtain ⟨pm, hpm⟩ : ∃ pm, pm = (Nd.full x).ps.length := ⟨_, rfl⟩
      have hpm2 : pm = pk + 2 := by rw [hpm, hpk]; simp [Nd.full, rooms]
      rw [← hpm] at hvf
      subst hvf
      replace x1 : wr.cell? ⟨ga, i * 3 + 2, none⟩ = some (.slice pa pm pc) := x1
      have hxp := HSP.out.1 x (List.mem_of_getElem? hx)
      have hpc : pm ≤ pc := by
        rcases hv with ⟨q, _⟩ | ⟨_, _, _, q, _, _, q2, _⟩
        · injection q with q1 q2 q3
          omega
        · injection q with q1 q2' q3
          omega
      have i1 : (i : Int) < (kn : Int) := by omega
      have i2 : (i : Int) < (nn : Int) := by omega
      have hw1 : wrap64 ((pm : Int) - 2) = (pk : Int) := by unfold wrap64; omega
      have hv1 : IntKind.i64.wrap ((pm : Int) - 2) = (pk : Int) := by rw [Go.PlainAid.i64_is]; exact hw1
      have hsl : (pk : Int) ≤ (pc : Int) := by omega
      have HW : Hid (wrap64 ((i : Int) + 1) = (i : Int) + 1) := by show _ = _; unfold wrap64; omega
      have hfx5 : Fx [69, 72] [] wr (wr.setCell ⟨ga, i * 3 + 2, none⟩ (.slice pa pk pc)) := Fx.set hbk (by simp)
      have HF : Hid (i < ns.length ∧ NRow (dNf lo0) 69 (wr.setCell ⟨ga, i * 3 + 2, none⟩ (.slice pa pk pc)) (.slice (some ⟨ga, 0, none⟩) nn nc) (hL Nd.full ns ndM (i + 1)) ∧ NRow (dEf lo0) 72 (wr.setCell ⟨ga, i * 3 + 2, none⟩ (.slice pa pk pc)) (.slice (some ⟨ge, 0, none⟩) en ec) (es.map Ed.full ++ edM) ∧ Fx [69, 72] [] wh (wr.setCell ⟨ga, i * 3 + 2, none⟩ (.slice pa pk pc)) ∧ G W0 (wr.setCell ⟨ga, i * 3 + 2, none⟩ (.slice pa pk pc))) := by
        refine ⟨hil, ?_, he.fx (Fx.set (X := [69]) (M := []) hbk (by simp)) (by decide) (by intro q hq; simp at hq; subst hq; decide), hfx.trans hfx5, hg.setCell HF0.out.1 _⟩
        rw [← hL_set hx]
        refine hn.put (hL_at hx) (Nat.lt_succ_self _) _ rfl (by show 69 ∉ [101]; decide) fun cs' ⟨v', hcs', hv', hvb'⟩ _ hc' => ?_
        have e1 := hc' 2 (Nat.lt_succ_self _)
        rw [hcs'] at e1
        have e2 : some v' = some (.slice pa pm pc) := e1.symm.trans x1
        cases e2
        refine ⟨.slice pa pk pc, by rw [hcs']; rfl, ?_, fun k e => hvb' k (by cases pa <;> exact e)⟩
        have e3 := (hv'.take (m := pk) (by omega)).fx (X := [69]) (M := []) (Fx.set hbk (by simp) (o := i * 3 + 2) (v := .slice pa pk pc)) (by decide)
        rw [hpk, show (Nd.full x).ps = rooms x.ps from rfl, rooms_take] at e3
        rw [hpk]
        exact e3
      have HX1 := hide x1; have HFZ := hide (hbk.frozen (i * 3 + 2)); have HB3R := hide hB3
      clear hik hn he hfx hg hB3 hsm hl hil hx hcap hcs hv hcell hbk hpk hpm hpm2 hxp hpc hfx5
      go_wp2_with fail
      clear kb3 x1
      refine wp_region_noPanic ?_
      refine wp_region_L (S := (fun V => G wr V)) 20 (by kernel_rfl) ((G.refl wr).drew) (fun hHeld => ?_)
      refine wpAnyL_take (i := 0) (v := ?_) rfl (by kernel_rfl) (by kernel_rfl) (by kernel_rfl) (by kernel_rfl) (fun _ _ _ h => h) (Or.inl ⟨by rfl, ?_⟩) hHeld ?_
      rotate_left 1
      · (intro w hSw; have q1 := (HB3R.out.G hSw).cell; have q2 := cell_G HX1.out hSw; go_simp; try with_reducible rfl)
      try simp only [Act.put, List.getElem_toArray, List.getElem_cons_zero, List.setIfInBounds_toArray, List.set_cons_zero, List.set_cons_succ]
      refine wpAnyL_take (i := 1) (v := ?_) rfl (by kernel_rfl) (by kernel_rfl) (by kernel_rfl) (by kernel_rfl) (fun _ _ _ h => h) (Or.inl ⟨by rfl, ?_⟩) hHeld ?_
      rotate_left 1
      · (intro w hSw; have q1 := (HB3R.out.G hSw).cell; have q2 := cell_G HX1.out hSw; go_simp; try with_reducible rfl)
      try simp only [Act.put, List.getElem_toArray, List.getElem_cons_zero, List.getElem_cons_succ, List.setIfInBounds_toArray, List.set_cons_zero, List.set_cons_succ]
      refine wpAnyL_take (i := 2) (v := ?_) rfl (by kernel_rfl) (by kernel_rfl) (by kernel_rfl) (by kernel_rfl) (fun _ _ _ h => h) (Or.inl ⟨by rfl, ?_⟩) hHeld ?_
      rotate_left 1
      · (intro w hSw; have q1 := (HB3R.out.G hSw).cell; have q2 := cell_G HX1.out hSw; go_simp; try with_reducible rfl)
      try simp only [Act.put, List.getElem_toArray, List.getElem_cons_zero, List.getElem_cons_succ, List.setIfInBounds_toArray, List.set_cons_zero, List.set_cons_succ]
      refine wpAnyL_take (i := 3) (v := ?_) rfl (by kernel_rfl) (by kernel_rfl) (by kernel_rfl) (by kernel_rfl) (fun _ _ _ h => h) (Or.inl ⟨by rfl, ?_⟩) hHeld ?_
      rotate_left 1
      · (intro w hSw; have q1 := (HB3R.out.G hSw).cell; have q2 := cell_G HX1.out hSw; go_simp; try with_reducible rfl)
      try simp only [Act.put, List.getElem_toArray, List.getElem_cons_zero, List.getElem_cons_succ, List.setIfInBounds_toArray, List.set_cons_zero, List.set_cons_succ]
      refine wpAnyL_take (i := 4) (v := ?_) rfl (by kernel_rfl) (by kernel_rfl) (by kernel_rfl) (by kernel_rfl) (fun _ _ _ h => h) (Or.inl ⟨by rfl, ?_⟩) hHeld ?_
      rotate_left 1
      · (intro w hSw; have q1 := (HB3R.out.G hSw).cell; have q2 := cell_G HX1.out hSw; go_simp; try with_reducible rfl)
      try simp only [Act.put, List.getElem_toArray, List.getElem_cons_zero, List.getElem_cons_succ, List.setIfInBounds_toArray, List.set_cons_zero, List.set_cons_succ]
      refine wpAnyL_take (i := 5) (v := ?_) rfl (by kernel_rfl) (by kernel_rfl) (by kernel_rfl) (by kernel_rfl) (fun _ _ _ h => h) (Or.inl ⟨by rfl, ?_⟩) hHeld ?_
      rotate_left 1
      · (intro w hSw; have q1 := (HB3R.out.G hSw).cell; have q2 := cell_G HX1.out hSw; go_simp; try with_reducible rfl)
      try simp only [Act.put, List.getElem_toArray, List.getElem_cons_zero, List.getElem_cons_succ, List.setIfInBounds_toArray, List.set_cons_zero, List.set_cons_succ]
      refine wpAnyL_take (i := 6) (v := ?_) rfl (by kernel_rfl) (by kernel_rfl) (by kernel_rfl) (by kernel_rfl) (fun _ _ _ h => h) (Or.inl ⟨by rfl, ?_⟩) hHeld ?_
      rotate_left 1
      · (intro w hSw; have q1 := (HB3R.out.G hSw).cell; have q2 := cell_G HX1.out hSw; go_simp; try with_reducible rfl)
      try simp only [Act.put, List.getElem_toArray, List.getElem_cons_zero, List.getElem_cons_succ, List.setIfInBounds_toArray, List.set_cons_zero, List.set_cons_succ]
      refine wpAnyL_take (i := 7) (v := ?_) rfl (by kernel_rfl) (by kernel_rfl) (by kernel_rfl) (by kernel_rfl) (fun _ _ _ h => h) (Or.inl ⟨by rfl, ?_⟩) hHeld ?_
      rotate_left 1
      · (intro w hSw; have q1 := (HB3R.out.G hSw).cell; have q2 := cell_G HX1.out hSw; go_simp; try with_reducible rfl)
      try simp only [Act.put, List.getElem_toArray, List.getElem_cons_zero, List.getElem_cons_succ, List.setIfInBounds_toArray, List.set_cons_zero, List.set_cons_succ]
      refine wpAnyL_take (i := 8) (v := ?_) rfl (by kernel_rfl) (by kernel_rfl) (by kernel_rfl) (by kernel_rfl) (fun _ _ _ h => h) (Or.inl ⟨by rfl, ?_⟩) hHeld ?_
      rotate_left 1
      · (intro w hSw; have q1 := (HB3R.out.G hSw).cell; have q2 := cell_G HX1.out hSw; go_simp; try with_reducible rfl)
      try simp only [Act.put, List.getElem_toArray, List.getElem_cons_zero, List.getElem_cons_succ, List.setIfInBounds_toArray, List.set_cons_zero, List.set_cons_succ]
      refine wpAnyL_take (i := 9) (v := ?_) rfl (by kernel_rfl) (by kernel_rfl) (by kernel_rfl) (by kernel_rfl) (fun _ _ _ h => h) (Or.inl ⟨by rfl, ?_⟩) hHeld ?_
      rotate_left 1
      · (intro w hSw; have q1 := (HB3R.out.G hSw).cell; have q2 := cell_G HX1.out hSw; go_simp; try with_reducible rfl)
      try simp only [Act.put, List.getElem_toArray, List.getElem_cons_zero, List.getElem_cons_succ, List.setIfInBounds_toArray, List.set_cons_zero, List.set_cons_succ]
      refine wpAnyL_take (i := 10) (v := ?_) rfl (by kernel_rfl) (by kernel_rfl) (by kernel_rfl) (by kernel_rfl) (fun _ _ _ h => h) (Or.inl ⟨by rfl, ?_⟩) hHeld ?_
      rotate_left 1
      · (intro w hSw; have q1 := (HB3R.out.G hSw).cell; have q2 := cell_G HX1.out hSw; go_simp; try with_reducible rfl)
      try simp only [Act.put, List.getElem_toArray, List.getElem_cons_zero, List.getElem_cons_succ, List.setIfInBounds_toArray, List.set_cons_zero, List.set_cons_succ]
      refine wpAnyL_take (i := 11) (v := ?_) rfl (by kernel_rfl) (by kernel_rfl) (by kernel_rfl) (by kernel_rfl) (fun _ _ _ h => h) (Or.inl ⟨by rfl, ?_⟩) hHeld ?_
      rotate_left 1
      · (intro w hSw; have q1 := (HB3R.out.G hSw).cell; have q2 := cell_G HX1.out hSw; go_simp; try with_reducible rfl)
      try simp only [Act.put, List.getElem_toArray, List.getElem_cons_zero, List.getElem_cons_succ, List.setIfInBounds_toArray, List.set_cons_zero, List.set_cons_succ]
      refine wpAnyL_take (i := 12) (v := ?_) rfl (by kernel_rfl) (by kernel_rfl) (by kernel_rfl) (by kernel_rfl) (fun _ _ _ h => h) (Or.inl ⟨by rfl, ?_⟩) hHeld ?_
      rotate_left 1
      · (intro w hSw; have q1 := (HB3R.out.G hSw).cell; have q2 := cell_G HX1.out hSw; go_simp; try with_reducible rfl)
      try simp only [Act.put, List.getElem_toArray, List.getElem_cons_zero, List.getElem_cons_succ, List.setIfInBounds_toArray, List.set_cons_zero, List.set_cons_succ]
      refine wpAnyL_take (i := 13) (v := ?_) rfl (by kernel_rfl) (by kernel_rfl) (by kernel_rfl) (by kernel_rfl) (fun _ _ _ h => h) (Or.inl ⟨by rfl, ?_⟩) hHeld ?_
      rotate_left 1
      · (intro w hSw; have q1 := (HB3R.out.G hSw).cell; have q2 := cell_G HX1.out hSw; go_simp; try with_reducible rfl)
      try simp only [Act.put, List.getElem_toArray, List.getElem_cons_zero, List.getElem_cons_succ, List.setIfInBounds_toArray, List.set_cons_zero, List.set_cons_succ]
      refine wpAnyL_take (i := 14) (v := ?_) rfl (by kernel_rfl) (by kernel_rfl) (by kernel_rfl) (by kernel_rfl) (fun _ _ _ h => h) (Or.inl ⟨by rfl, ?_⟩) hHeld ?_
      rotate_left 1
      · (intro w hSw; have q1 := (HB3R.out.G hSw).cell; have q2 := cell_G HX1.out hSw; go_simp; try with_reducible rfl)
      try simp only [Act.put, List.getElem_toArray, List.getElem_cons_zero, List.getElem_cons_succ, List.setIfInBounds_toArray, List.set_cons_zero, List.set_cons_succ]
      refine wpAnyL_take (i := 15) (v := ?_) rfl (by kernel_rfl) (by kernel_rfl) (by kernel_rfl) (by kernel_rfl) (fun _ _ _ h => h) (Or.inl ⟨by rfl, ?_⟩) hHeld ?_
      rotate_left 1
      · (intro w hSw; have q1 := (HB3R.out.G hSw).cell; have q2 := cell_G HX1.out hSw; go_simp; try with_reducible rfl)
      try simp only [Act.put, List.getElem_toArray, List.getElem_cons_zero, List.getElem_cons_succ, List.setIfInBounds_toArray, List.set_cons_zero, List.set_cons_succ]
      refine wpAnyL_take (i := 16) (v := ?_) rfl (by kernel_rfl) (by kernel_rfl) (by kernel_rfl) (by kernel_rfl) (fun _ _ _ h => h) (Or.inl ⟨by rfl, ?_⟩) hHeld ?_
      rotate_left 1
      · (intro w hSw; have q1 := (HB3R.out.G hSw).cell; have q2 := cell_G HX1.out hSw; go_simp; try with_reducible rfl)
      try simp only [Act.put, List.getElem_toArray, List.getElem_cons_zero, List.getElem_cons_succ, List.setIfInBounds_toArray, List.set_cons_zero, List.set_cons_succ]
      refine wpAnyL_take (i := 17) (v := ?_) rfl (by kernel_rfl) (by kernel_rfl) (by kernel_rfl) (by kernel_rfl) (fun _ _ _ h => h) (Or.inl ⟨by rfl, ?_⟩) hHeld ?_
      rotate_left 1
      · (intro w hSw; have q1 := (HB3R.out.G hSw).cell; have q2 := cell_G HX1.out hSw; go_simp; try with_reducible rfl)
      try simp only [Act.put, List.getElem_toArray, List.getElem_cons_zero, List.getElem_cons_succ, List.setIfInBounds_toArray, List.set_cons_zero, List.set_cons_succ]
      refine wpAnyL_one (i := 18) (by kernel_rfl) rfl (by kernel_rfl) (fun K hK => ?_)
      clear hHeld
      (try refine (if_pos rfl).mpr ?_)
      go_simp
      refine hK.out _ _ ((G.refl wr).drew) (fun hHeld => ?_)
      clear hK K
      try simp only [Act.put, List.getElem_toArray, List.getElem_cons_zero, List.getElem_cons_succ, List.setIfInBounds_toArray, List.set_cons_zero, List.set_cons_succ]
      refine wpAnyL_one (i := 19) (by kernel_rfl) rfl (by kernel_rfl) (fun K hK => ?_)
      clear hHeld
      (try refine (if_pos rfl).mpr ?_)
      go_simp
      refine hK.out _ _ ((G.refl wr).drew) (fun hHeld => ?_)
      clear hK K
      try simp only [Act.put, List.getElem_toArray, List.getElem_cons_zero, List.getElem_cons_succ, List.setIfInBounds_toArray, List.set_cons_zero, List.set_cons_succ]
      refine wpAnyL_last (by kernel_rfl) rfl (by kernel_rfl) (fun K hK => ?_)
      clear hHeld
      have hc7 := HX1.out
      have hz7 := HFZ.out
      go_simp
      refine hK.out _ _ ?_
      clear hK K
      refine NoPanic.normal ?_
      go_wp2_with fail
      have hd : G (wr.setCell ⟨ga, i * 3 + 2, none⟩ (.slice pa pk pc)) ((wr.setCell ⟨ga, i * 3 + 2, none⟩ (.slice pa pk pc))).drew := (G.refl _).drew
      exact ⟨⟨i + 1, by rw [HW.out]; exact srl i, HF.out.1, HF.out.2.1.G hd, HF.out.2.2.1.G hd, HF.out.2.2.2.1.trans (Fx.of_G hd), HF.out.2.2.2.2.trans hd⟩, by rw [HW.out]; exact sms HF.out.1⟩
    · have i1 : ¬ (i : Int) < (kn : Int) := by omega
      rw [hL_all (by omega)] at hn
      have HE := hide (And.intro hn (And.intro he (And.intro hfx hg)))
      clear hik hn he hfx hg hB3 hil hl hsm
      go_wp2_with fail
      clear i1 kb3
      go_loopw [5] (fun iv wr => ∃ i : Nat, iv = I i ∧ i ≤ es.length ∧ NRow (dNf lo0) 69 wr (.slice (some ⟨ga, 0, none⟩) nn nc) (ns ++ ndM) ∧ NRow (dEf lo0) 72 wr (.slice (some ⟨ge, 0, none⟩) en ec) (hL Ed.full es edM i) ∧ Fx [69, 72] [] wh wr ∧ G W0 wr) (fun iv _ => es.length - (RowKit.intOf iv).toNat)
      case atStart => exact ⟨0, rfl, Nat.zero_le _, HE.out.1, HE.out.2.1, HE.out.2.2.1, HE.out.2.2.2⟩
      case round =>
        clear HE
        rename_i wr hout
        obtain ⟨i, rfl, hik, hn, he, hfx, hg⟩ := hrel
        have hB3 := HB3.out.fx hfx (by decide)
        have kb3 := hB3.cell
        have hsm := HSM.out
        have hl := HL.out
        by_cases hil : i < es.length
        · obtain ⟨x, hx⟩ : ∃ x, es[i]? = some x := ⟨_, List.getElem?_eq_getElem hil⟩
          obtain ⟨g, cs, hga, hcap, ⟨v, hcs, hv, -⟩, -, hcell, xs, hbk⟩ := he.at (i := i) (x := Ed.full x) (hL_at hx)
          injection hga with hga
          injection hga with hga
          subst hga
          have x1 := hcell 4 (Nat.lt_succ_self _)
          rw [hcs] at x1
          obtain ⟨pa, pc, hvf⟩ := hv.form
          obtain ⟨pk, hpk⟩ : ∃ pk, pk = x.ps.length := ⟨_, rfl⟩
          obtain ⟨pm, hpm⟩ : ∃ pm, pm = (Ed.full x).ps.length := ⟨_, rfl⟩
          have hpm2 : pm = pk + 2 := by rw [hpm, hpk]; simp [Ed.full, rooms]
          rw [← hpm] at hvf
          subst hvf
          replace x1 : wr.cell? ⟨ge, i * 5 + 4, none⟩ = some (.slice pa pm pc) := x1
          have hxp := HSP.out.2 x (List.mem_of_getElem? hx)
          have hpc : pm ≤ pc := by
            rcases hv with ⟨q, _⟩ | ⟨_, _, _, q, _, _, q2, _⟩
            · injection q with q1 q2 q3
              omega
            · injection q with q1 q2' q3
              omega
          have i1 : (i : Int) < (ke : Int) := by omega
          have i2 : (i : Int) < (en : Int) := by omega
          have hw1 : wrap64 ((pm : Int) - 2) = (pk : Int) := by unfold wrap64; omega
          have hv1 : IntKind.i64.wrap ((pm : Int) - 2) = (pk : Int) := by rw [Go.PlainAid.i64_is]; exact hw1
          have hsl : (pk : Int) ≤ (pc : Int) := by omega
          have HW : Hid (wrap64 ((i : Int) + 1) = (i : Int) + 1) := by show _ = _; unfold wrap64; omega
          have hfx5 : Fx [69, 72] [] wr (wr.setCell ⟨ge, i * 5 + 4, none⟩ (.slice pa pk pc)) := Fx.set hbk (by simp)
          have HF : Hid (i < es.length ∧ NRow (dEf lo0) 72 (wr.setCell ⟨ge, i * 5 + 4, none⟩ (.slice pa pk pc)) (.slice (some ⟨ge, 0, none⟩) en ec) (hL Ed.full es edM (i + 1)) ∧ NRow (dNf lo0) 69 (wr.setCell ⟨ge, i * 5 + 4, none⟩ (.slice pa pk pc)) (.slice (some ⟨ga, 0, none⟩) nn nc) (ns ++ ndM) ∧ Fx [69, 72] [] wh (wr.setCell ⟨ge, i * 5 + 4, none⟩ (.slice pa pk pc)) ∧ G W0 (wr.setCell ⟨ge, i * 5 + 4, none⟩ (.slice pa pk pc))) := by
            refine ⟨hil, ?_, hn.fx (Fx.set (X := [72]) (M := []) hbk (by simp)) (by decide) (by intro q hq; simp at hq; subst hq; decide), hfx.trans hfx5, hg.setCell HF0.out.2 _⟩
            rw [← hL_set hx]
            refine he.put (hL_at hx) (Nat.lt_succ_self _) _ rfl (by show 72 ∉ [101]; decide) fun cs' ⟨v', hcs', hv', hvb'⟩ _ hc' => ?_
            have e1 := hc' 4 (Nat.lt_succ_self _)
            rw [hcs'] at e1
            have e2 : some v' = some (.slice pa pm pc) := e1.symm.trans x1
            cases e2
            refine ⟨.slice pa pk pc, by rw [hcs']; rfl, ?_, fun k e => hvb' k (by cases pa <;> exact e)⟩
            have e3 := (hv'.take (m := pk) (by omega)).fx (X := [72]) (M := []) (Fx.set hbk (by simp) (o := i * 5 + 4) (v := .slice pa pk pc)) (by decide)
            rw [hpk, show (Ed.full x).ps = rooms x.ps from rfl, rooms_take] at e3
            rw [hpk]
            exact e3
          have HX1 := hide x1; have HFZ := hide (hbk.frozen (i * 5 + 4)); have HB3R := hide hB3
          clear hik hn he hfx hg hB3 hsm hl hil hx hcap hcs hv hcell hbk hpk hpm hpm2 hxp hpc hfx5
          go_wp2_with fail
          clear kb3 x1
          refine wp_region_noPanic ?_
          refine wp_region_L (S := (fun V => G wr V)) 20 (by kernel_rfl) ((G.refl wr).drew) (fun hHeld => ?_)
          refine wpAnyL_take (i := 0) (v := ?_) rfl (by kernel_rfl) (by kernel_rfl) (by kernel_rfl) (by kernel_rfl) (fun _ _ _ h => h) (Or.inl ⟨by rfl, ?_⟩) hHeld ?_
          rotate_left 1
          · (intro w hSw; have q1 := (HB3R.out.G hSw).cell; have q2 := cell_G HX1.out hSw; go_simp; try with_reducible rfl)
          try simp only [Act.put, List.getElem_toArray, List.getElem_cons_zero, List.setIfInBounds_toArray, List.set_cons_zero, List.set_cons_succ]
          refine wpAnyL_take (i := 1) (v := ?_) rfl (by kernel_rfl) (by kernel_rfl) (by kernel_rfl) (by kernel_rfl) (fun _ _ _ h => h) (Or.inl ⟨by rfl, ?_⟩) hHeld ?_
          rotate_left 1
          · (intro w hSw; have q1 := (HB3R.out.G hSw).cell; have q2 := cell_G HX1.out hSw; go_simp; try with_reducible rfl)
          try simp only [Act.put, List.getElem_toArray, List.getElem_cons_zero, List.getElem_cons_succ, List.setIfInBounds_toArray, List.set_cons_zero, List.set_cons_succ]
          refine wpAnyL_take (i := 2) (v := ?_) rfl (by kernel_rfl) (by kernel_rfl) (by kernel_rfl) (by kernel_rfl) (fun _ _ _ h => h) (Or.inl ⟨by rfl, ?_⟩) hHeld ?_
          rotate_left 1
          · (intro w hSw; have q1 := (HB3R.out.G hSw).cell; have q2 := cell_G HX1.out hSw; go_simp; try with_reducible rfl)
          try simp only [Act.put, List.getElem_toArray, List.getElem_cons_zero, List.getElem_cons_succ, List.setIfInBounds_toArray, List.set_cons_zero, List.set_cons_succ]
          refine wpAnyL_take (i := 3) (v := ?_) rfl (by kernel_rfl) (by kernel_rfl) (by kernel_rfl) (by kernel_rfl) (fun _ _ _ h => h) (Or.inl ⟨by rfl, ?_⟩) hHeld ?_
          rotate_left 1
          · (intro w hSw; have q1 := (HB3R.out.G hSw).cell; have q2 := cell_G HX1.out hSw; go_simp; try with_reducible rfl)
          try simp only [Act.put, List.getElem_toArray, List.getElem_cons_zero, List.getElem_cons_succ, List.setIfInBounds_toArray, List.set_cons_zero, List.set_cons_succ]
          refine wpAnyL_take (i := 4) (v := ?_) rfl (by kernel_rfl) (by kernel_rfl) (by kernel_rfl) (by kernel_rfl) (fun _ _ _ h => h) (Or.inl ⟨by rfl, ?_⟩) hHeld ?_
          rotate_left 1
          · (intro w hSw; have q1 := (HB3R.out.G hSw).cell; have q2 := cell_G HX1.out hSw; go_simp; try with_reducible rfl)
          try simp only [Act.put, List.getElem_toArray, List.getElem_cons_zero, List.getElem_cons_succ, List.setIfInBounds_toArray, List.set_cons_zero, List.set_cons_succ]
          refine wpAnyL_take (i := 5) (v := ?_) rfl (by kernel_rfl) (by kernel_rfl) (by kernel_rfl) (by kernel_rfl) (fun _ _ _ h => h) (Or.inl ⟨by rfl, ?_⟩) hHeld ?_
          rotate_left 1
          · (intro w hSw; have q1 := (HB3R.out.G hSw).cell; have q2 := cell_G HX1.out hSw; go_simp; try with_reducible rfl)
          try simp only [Act.put, List.getElem_toArray, List.getElem_cons_zero, List.getElem_cons_succ, List.setIfInBounds_toArray, List.set_cons_zero, List.set_cons_succ]
          refine wpAnyL_take (i := 6) (v := ?_) rfl (by kernel_rfl) (by kernel_rfl) (by kernel_rfl) (by kernel_rfl) (fun _ _ _ h => h) (Or.inl ⟨by rfl, ?_⟩) hHeld ?_
          rotate_left 1
          · (intro w hSw; have q1 := (HB3R.out.G hSw).cell; have q2 := cell_G HX1.out hSw; go_simp; try with_reducible rfl)
          try simp only [Act.put, List.getElem_toArray, List.getElem_cons_zero, List.getElem_cons_succ, List.setIfInBounds_toArray, List.set_cons_zero, List.set_cons_succ]
          refine wpAnyL_take (i := 7) (v := ?_) rfl (by kernel_rfl) (by kernel_rfl) (by kernel_rfl) (by kernel_rfl) (fun _ _ _ h => h) (Or.inl ⟨by rfl, ?_⟩) hHeld ?_
          rotate_left 1
          · (intro w hSw; have q1 := (HB3R.out.G hSw).cell; have q2 := cell_G HX1.out hSw; go_simp; try with_reducible rfl)
          try simp only [Act.put, List.getElem_toArray, List.getElem_cons_zero, List.getElem_cons_succ, List.setIfInBounds_toArray, List.set_cons_zero, List.set_cons_succ]
          refine wpAnyL_take (i := 8) (v := ?_) rfl (by kernel_rfl) (by kernel_rfl) (by kernel_rfl) (by kernel_rfl) (fun _ _ _ h => h) (Or.inl ⟨by rfl, ?_⟩) hHeld ?_
          rotate_left 1
          · (intro w hSw; have q1 := (HB3R.out.G hSw).cell; have q2 := cell_G HX1.out hSw; go_simp; try with_reducible rfl)
          try simp only [Act.put, List.getElem_toArray, List.getElem_cons_zero, List.getElem_cons_succ, List.setIfInBounds_toArray, List.set_cons_zero, List.set_cons_succ]
          refine wpAnyL_take (i := 9) (v := ?_) rfl (by kernel_rfl) (by kernel_rfl) (by kernel_rfl) (by kernel_rfl) (fun _ _ _ h => h) (Or.inl ⟨by rfl, ?_⟩) hHeld ?_
          rotate_left 1
          · (intro w hSw; have q1 := (HB3R.out.G hSw).cell; have q2 := cell_G HX1.out hSw; go_simp; try with_reducible rfl)
          try simp only [Act.put, List.getElem_toArray, List.getElem_cons_zero, List.getElem_cons_succ, List.setIfInBounds_toArray, List.set_cons_zero, List.set_cons_succ]
          refine wpAnyL_take (i := 10) (v := ?_) rfl (by kernel_rfl) (by kernel_rfl) (by kernel_rfl) (by kernel_rfl) (fun _ _ _ h => h) (Or.inl ⟨by rfl, ?_⟩) hHeld ?_
          rotate_left 1
          · (intro w hSw; have q1 := (HB3R.out.G hSw).cell; have q2 := cell_G HX1.out hSw; go_simp; try with_reducible rfl)
          try simp only [Act.put, List.getElem_toArray, List.getElem_cons_zero, List.getElem_cons_succ, List.setIfInBounds_toArray, List.set_cons_zero, List.set_cons_succ]
          refine wpAnyL_take (i := 11) (v := ?_) rfl (by kernel_rfl) (by kernel_rfl) (by kernel_rfl) (by kernel_rfl) (fun _ _ _ h => h) (Or.inl ⟨by rfl, ?_⟩) hHeld ?_
          rotate_left 1
          · (intro w hSw; have q1 := (HB3R.out.G hSw).cell; have q2 := cell_G HX1.out hSw; go_simp; try with_reducible rfl)
          try simp only [Act.put, List.getElem_toArray, List.getElem_cons_zero, List.getElem_cons_succ, List.setIfInBounds_toArray, List.set_cons_zero, List.set_cons_succ]
          refine wpAnyL_take (i := 12) (v := ?_) rfl (by kernel_rfl) (by kernel_rfl) (by kernel_rfl) (by kernel_rfl) (fun _ _ _ h => h) (Or.inl ⟨by rfl, ?_⟩) hHeld ?_
          rotate_left 1
          · (intro w hSw; have q1 := (HB3R.out.G hSw).cell; have q2 := cell_G HX1.out hSw; go_simp; try with_reducible rfl)
          try simp only [Act.put, List.getElem_toArray, List.getElem_cons_zero, List.getElem_cons_succ, List.setIfInBounds_toArray, List.set_cons_zero, List.set_cons_succ]
          refine wpAnyL_take (i := 13) (v := ?_) rfl (by kernel_rfl) (by kernel_rfl) (by kernel_rfl) (by kernel_rfl) (fun _ _ _ h => h) (Or.inl ⟨by rfl, ?_⟩) hHeld ?_
          rotate_left 1
          · (intro w hSw; have q1 := (HB3R.out.G hSw).cell; have q2 := cell_G HX1.out hSw; go_simp; try with_reducible rfl)
          try simp only [Act.put, List.getElem_toArray, List.getElem_cons_zero, List.getElem_cons_succ, List.setIfInBounds_toArray, List.set_cons_zero, List.set_cons_succ]
          refine wpAnyL_take (i := 14) (v := ?_) rfl (by kernel_rfl) (by kernel_rfl) (by kernel_rfl) (by kernel_rfl) (fun _ _ _ h => h) (Or.inl ⟨by rfl, ?_⟩) hHeld ?_
          rotate_left 1
          · (intro w hSw; have q1 := (HB3R.out.G hSw).cell; have q2 := cell_G HX1.out hSw; go_simp; try with_reducible rfl)
          try simp only [Act.put, List.getElem_toArray, List.getElem_cons_zero, List.getElem_cons_succ, List.setIfInBounds_toArray, List.set_cons_zero, List.set_cons_succ]
          refine wpAnyL_take (i := 15) (v := ?_) rfl (by kernel_rfl) (by kernel_rfl) (by kernel_rfl) (by kernel_rfl) (fun _ _ _ h => h) (Or.inl ⟨by rfl, ?_⟩) hHeld ?_
          rotate_left 1
          · (intro w hSw; have q1 := (HB3R.out.G hSw).cell; have q2 := cell_G HX1.out hSw; go_simp; try with_reducible rfl)
          try simp only [Act.put, List.getElem_toArray, List.getElem_cons_zero, List.getElem_cons_succ, List.setIfInBounds_toArray, List.set_cons_zero, List.set_cons_succ]
          refine wpAnyL_take (i := 16) (v := ?_) rfl (by kernel_rfl) (by kernel_rfl) (by kernel_rfl) (by kernel_rfl) (fun _ _ _ h => h) (Or.inl ⟨by rfl, ?_⟩) hHeld ?_
          rotate_left 1
          · (intro w hSw; have q1 := (HB3R.out.G hSw).cell; have q2 := cell_G HX1.out hSw; go_simp; try with_reducible rfl)
          try simp only [Act.put, List.getElem_toArray, List.getElem_cons_zero, List.getElem_cons_succ, List.setIfInBounds_toArray, List.set_cons_zero, List.set_cons_succ]
          refine wpAnyL_take (i := 17) (v := ?_) rfl (by kernel_rfl) (by kernel_rfl) (by kernel_rfl) (by kernel_rfl) (fun _ _ _ h => h) (Or.inl ⟨by rfl, ?_⟩) hHeld ?_
          rotate_left 1
          · (intro w hSw; have q1 := (HB3R.out.G hSw).cell; have q2 := cell_G HX1.out hSw; go_simp; try with_reducible rfl)
          try simp only [Act.put, List.getElem_toArray, List.getElem_cons_zero, List.getElem_cons_succ, List.setIfInBounds_toArray, List.set_cons_zero, List.set_cons_succ]
          refine wpAnyL_one (i := 18) (by kernel_rfl) rfl (by kernel_rfl) (fun K hK => ?_)
          clear hHeld
          (try refine (if_pos rfl).mpr ?_)
          go_simp
          refine hK.out _ _ ((G.refl wr).drew) (fun hHeld => ?_)
          clear hK K
          try simp only [Act.put, List.getElem_toArray, List.getElem_cons_zero, List.getElem_cons_succ, List.setIfInBounds_toArray, List.set_cons_zero, List.set_cons_succ]
          refine wpAnyL_one (i := 19) (by kernel_rfl) rfl (by kernel_rfl) (fun K hK => ?_)
          clear hHeld
          (try refine (if_pos rfl).mpr ?_)
          go_simp
          refine hK.out _ _ ((G.refl wr).drew) (fun hHeld => ?_)
          clear hK K
          try simp only [Act.put, List.getElem_toArray, List.getElem_cons_zero, List.getElem_cons_succ, List.setIfInBounds_toArray, List.set_cons_zero, List.set_cons_succ]
          refine wpAnyL_last (by kernel_rfl) rfl (by kernel_rfl) (fun K hK => ?_)
          clear hHeld
          have hc7 := HX1.out
          have hz7 := HFZ.out
          go_simp
          refine hK.out _ _ ?_
          clear hK K
          refine NoPanic.normal ?_
          go_wp2_with fail
          have hd : G (wr.setCell ⟨ge, i * 5 + 4, none⟩ (.slice pa pk pc)) ((wr.setCell ⟨ge, i * 5 + 4, none⟩ (.slice pa pk pc))).drew := (G.refl _).drew
          exact ⟨⟨i + 1, by rw [HW.out]; exact srl i, HF.out.1, HF.out.2.2.1.G hd, HF.out.2.1.G hd, HF.out.2.2.2.1.trans (Fx.of_G hd), HF.out.2.2.2.2.trans hd⟩, by rw [HW.out]; exact sms HF.out.1⟩
        · have i1 : ¬ (i : Int) < (ke : Int) := by omega
          rw [hL_all (by omega)] at he
          have HE := hide (And.intro hn (And.intro he (And.intro hfx hg)))
          clear hik hn he hfx hg hB3 hil hl hsm
          obtain ⟨hn, he, hfx, hg⟩ := HE.out
          have hb2 := HB2.out.fx hfx (by decide)
          have kb2 := hb2.cell
          have zb2 := hb2.frozen
          have hC9 := (hb2.set 0 (.slice (some ⟨ga, 0, none⟩) kn nc)).set 1 (.slice (some ⟨ge, 0, none⟩) ke ec)
          have HF : Hid (NRow (dNf lo0) 69 ((wr.setCell ⟨B2, 0, none⟩ (.slice (some ⟨ga, 0, none⟩) kn nc)).setCell ⟨B2, 1, none⟩ (.slice (some ⟨ge, 0, none⟩) ke ec)) (.slice (some ⟨ga, 0, none⟩) nn nc) (ns ++ ndM) ∧ NRow (dEf lo0) 72 ((wr.setCell ⟨B2, 0, none⟩ (.slice (some ⟨ga, 0, none⟩) kn nc)).setCell ⟨B2, 1, none⟩ (.slice (some ⟨ge, 0, none⟩) ke ec)) (.slice (some ⟨ge, 0, none⟩) en ec) (es ++ edM) ∧ Fx [69, 72, 25] [] W ((wr.setCell ⟨B2, 0, none⟩ (.slice (some ⟨ga, 0, none⟩) kn nc)).setCell ⟨B2, 1, none⟩ (.slice (some ⟨ge, 0, none⟩) ke ec)) ∧ G W0 ((wr.setCell ⟨B2, 0, none⟩ (.slice (some ⟨ga, 0, none⟩) kn nc)).setCell ⟨B2, 1, none⟩ (.slice (some ⟨ge, 0, none⟩) ke ec)) ∧ ∀ k xs, Blk W k 25 xs → Blk ((wr.setCell ⟨B2, 0, none⟩ (.slice (some ⟨ga, 0, none⟩) kn nc)).setCell ⟨B2, 1, none⟩ (.slice (some ⟨ge, 0, none⟩) ke ec)) k 25 xs) := by
            have k9 : Fx [25] [] wr ((wr.setCell ⟨B2, 0, none⟩ (.slice (some ⟨ga, 0, none⟩) kn nc)).setCell ⟨B2, 1, none⟩ (.slice (some ⟨ge, 0, none⟩) ke ec)) := (Fx.set hb2 (by simp) (o := 0) (v := .slice (some ⟨ga, 0, none⟩) kn nc)).trans (Fx.set (hb2.set 0 _) (by simp) (o := 1) (v := .slice (some ⟨ge, 0, none⟩) ke ec))
            exact ⟨hn.fx k9 (by decide) (by intro q hq; simp at hq; subst hq; decide), he.fx k9 (by decide) (by intro q hq; simp at hq; subst hq; decide), ((Fx.of_G HG4.out).trans (hfx.mono (fun t q => by simp at q ⊢; omega) (fun t q => q))).trans (k9.mono (fun t q => by simp at q ⊢; omega) (fun t q => q)), (hg.setCell HB2S.out _).setCell HB2S.out _, fun k xs hb => (((hb.G HG4.out).fx hfx (by decide)).off (by have := hb.lt; have := HB2W.out; omega)).off (by have := hb.lt; have := HB2W.out; omega)⟩
          clear hn he hfx hg hb2 HE
          go_wp2_with fail
          exact bodyPost_ret_by (v := .agg #[.slice (some ⟨ga, 0, none⟩) kn nc, .slice (some ⟨ge, 0, none⟩) ke ec]) (results_cell_row Tryz.results9 _ _ B2 25 _ (0, 0) _ rfl hC9.h Tryz.underlying25 rfl (by kernel_rfl)) rfl ⟨rfl, HF.out⟩
end Go.Proofs.YtifioikdhfhljaaGreatDoor
