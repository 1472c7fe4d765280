/- Locks: Waits. -/
import Derived.Test.YtkbgifhhnnfgoaaGreatDoorLk58
import Derived.Test.YtkbgifhhnnfgoaaGreatDoorShCo
import Derived.Shelf.SlicesE.Compact
import Derived.Lib.SlicesCompact
import Derived.Test.YtkbgifhhnnfgoaaGreatDoorLk73
namespace Go.Proofs.YtkbgifhhnnfgoaaGreatDoor
section
section
section
open Go.RowKit
attribute [local go_sem] Oper.semAt_some

/-- Between two rounds of AppendSeq. -/
structure ApI (w : World) (ss : List Int) (W : World) : Prop where
  box : ∃ v, Blk W w.heap.size 46 [v] ∧ W.ownsRow (w.heap.size + 1) 3 1 v ss.length (ss.map fun z => I z)
  bl : Below w.heap.size w W
  sz : w.heap.size + 1 ≤ W.heap.size
theorem own_cells {W : World} {lo e k n : Nat} {v : Value} {xs : List Value} (h : W.ownsRow lo e k v n xs) {b : Nat} (hb : v.ownBlock = some b) : ∃ cs, W.heap[b]? = some (.cells cs e (0, 0)) := by
  rcases h.2 with ⟨e1, -⟩ | ⟨g, cap, cur, e1, -, hgc, -⟩
  · rw [e1] at hb; simp [Value.ownBlock] at hb
  · rw [e1] at hb
    have e2 : g = b := by simpa [Value.ownBlock] using hb
    subst e2
    exact ⟨_, hgc⟩
theorem ApI.own (w : World) : OwnFrom (w.heap.size + 1) (ApI w) := fun ss W W' row h hg hr => by
  have hcell : ∀ b e xs, Blk W b e xs → ¬ row = some b := fun b e xs hb e' => by
    obtain ⟨_, o, ho, hc⟩ := hr b e'
    rw [hb.h] at ho
    cases ho
    simp [Obj.isCells] at hc
  obtain ⟨v, h1, h2⟩ := h.box
  refine ⟨⟨v, h1.keep (hg.block _ h1.lt (fun e' => hcell _ _ _ h1 e'.symm)), own_chg (F := fun k => row = some k) h2 ⟨hg.os, hg.tape, hg.output, hg.size, fun k hk hn => hg.block k hk (fun e => hn e.symm)⟩ (fun k hk e => ?_)⟩, h.bl.grown hg h.bl.size (fun k e => by have := (hr k e).1; omega), Nat.le_trans h.sz hg.size⟩
  obtain ⟨_, o, ho, hc⟩ := hr k e
  obtain ⟨cs, hcs⟩ := own_cells h2 hk
  rw [hcs] at ho
  cases ho
  simp [Obj.isCells] at hc
theorem chg_put {W : World} {D : Nat} {o o' : Obj} (_ : W.heap[D]? = some o) : Chg (fun k => k = D) W (W.putObj D o') :=
  ⟨rfl, rfl, rfl, by simp [World.putObj], fun k _ hn => World.putObj_heap_other hn⟩
theorem G.of_chg' {W0 w w' : World} {D : Nat → Prop} (g : Go.Proofs.YtkbgifhhnnfgoaaGreatDoor.G W0 w) (c : Chg D w w') (hd : ∀ k, D k → W0.heap.size ≤ k) : Go.Proofs.YtkbgifhhnnfgoaaGreatDoor.G W0 w' :=
  ⟨c.os.trans g.os, c.tape.trans g.tape, c.output.trans g.output, Nat.le_trans g.size c.size, fun k hk => (c.block k (Nat.lt_of_lt_of_le hk g.size) (fun e => by have := hd k e; omega)).trans (g.block k hk)⟩
/-- One more comes. -/
theorem ApI.put {w W : World} {ss : List Int} (h : ApI w ss W) (y : Int) (hl : ss.length < 4200000000000) (B : Nat → Prop) (hB : ∀ b, B b → b < w.heap.size) : ∃ uv va9 vc9 w9, Blk W w.heap.size 46 [uv] ∧ (Builtin.append_ #[46, 46] 46 #[uv, .slice (some ⟨W.heap.size, 0, none⟩) 1 1]).run Tryz.prog (W.alloc (.cells #[I y] 3)) = .ok (.slice va9 (ss.length + 1) vc9) w9 ∧ Blk w9 w.heap.size 46 [uv] ∧
    ApI w (ss ++ [y]) (w9.setCell ⟨w.heap.size, 0, none⟩ (.slice va9 (ss.length + 1) vc9)) ∧ KeepsOthers W (w9.setCell ⟨w.heap.size, 0, none⟩ (.slice va9 (ss.length + 1) vc9)) ∧ WayK B W (w9.setCell ⟨w.heap.size, 0, none⟩ (.slice va9 (ss.length + 1) vc9)) := by
  obtain ⟨uv, h1, h2⟩ := h.box
  obtain ⟨i0, hi, hz0, hz1, hz2⟩ := info_parts (show (Tryz.prog.info? 3).map (fun i => (i.zero, i.size, i.bytes)) = some (some (.int .i64 0), 1, 8) from by kernel_rfl)
  have gA : G W (W.alloc (.cells #[I y] 3)) := (G.refl W).alloc _
  have hmx : (4200000000002 : Nat) ≤ maxLen := of_decide_eq_true (by kernel_rfl)
  obtain ⟨v', w9, q1, q2, q3, -, -⟩ := run_append_own_at (P := Tryz.prog) (w := W.alloc (.cells #[I y] 3)) (w.heap.size + 1) 46 46 3 i0 _ 1 8 Tryz.underlying46 hi hz0 hz1 hz2 rfl (by decide) uv ss.length (ss.map fun z => I z) (own_G h2 gA) ⟨W.heap.size, 0, none⟩ 1 1 [I y] rfl (fun j u hj => by
    have e : j = 0 := by
      have := (List.getElem?_eq_some_iff.1 hj).1
      simp at this
      omega
    subst e
    have := (Blk.new W [I y] 3).cell 0
    rw [hj] at this
    simpa [Addr.add] using this) (by simp [Value.oneCell']) (by omega) (by omega) (Nat.le_trans h.sz gA.size)
  obtain ⟨va9, vc9, rfl⟩ := row_form q2
  have hlo : ∀ b, uv.ownBlock = some b → w.heap.size + 1 ≤ b ∧ ∃ cs, W.heap[b]? = some (.cells cs 3 (0, 0)) := fun b hb => ⟨(World.ownsRow.lt h2 b hb).1, own_cells h2 hb⟩
  have hk : ∀ b, b < W.heap.size → uv.ownBlock ≠ some b → b ≠ w.heap.size → (w9.setCell ⟨w.heap.size, 0, none⟩ (.slice va9 (ss.length + 1) vc9)).heap[b]? = W.heap[b]? := fun b hb h1 h2 => by
    rw [Below.heap_setCell _ _ _ _ h2, q3.block b (Nat.lt_of_lt_of_le hb gA.size) (fun e => h1 e.symm)]
    exact gA.block b hb
  have hb9 : Blk w9 w.heap.size 46 [uv] := (h1.G gA).keep (q3.block _ (Nat.lt_of_lt_of_le h1.lt gA.size) (fun e => by have := (hlo _ e.symm).1; omega))
  have hsz : W.heap.size ≤ (w9.setCell ⟨w.heap.size, 0, none⟩ (.slice va9 (ss.length + 1) vc9)).heap.size := by
    rw [World.size_setCell]
    exact Nat.le_trans gA.size q3.size
  have hko : KeepsOthers W (w9.setCell ⟨w.heap.size, 0, none⟩ (.slice va9 (ss.length + 1) vc9)) := ⟨hsz, fun k o ho hc => by
    have hlt := (Array.getElem?_eq_some_iff.1 ho).1
    rw [hk k hlt (fun e => by
      obtain ⟨-, cs, hcs⟩ := hlo k e
      rw [hcs] at ho
      cases ho
      simp [Obj.isCells] at hc) (fun e => by
      subst e
      rw [h1.h] at ho
      cases ho
      simp [Obj.isCells] at hc)]
    exact ho⟩
  refine ⟨uv, va9, vc9, w9, h1, q1, hb9, ⟨⟨_, hb9.set 0 _, ?_⟩, ⟨q3.os.trans (gA.os.trans h.bl.os), q3.tape.trans (gA.tape.trans h.bl.tape), q3.output.trans (gA.output.trans h.bl.output), Nat.le_trans h.bl.size hsz, fun k hk0 => ?_⟩, Nat.le_trans h.sz hsz⟩, hko, hsz, fun b hb => ?_⟩
  · rw [List.length_append, List.map_append]
    refine own_chg q2 (chgk w9 w.heap.size 0 _) (fun b hb e => ?_)
    have := (World.ownsRow.lt q2 b hb).1
    omega
  · rw [hk k (Nat.lt_of_lt_of_le hk0 h.bl.size) (fun e => by have := (hlo k e).1; omega) (by omega)]
    exact h.bl.block k hk0
  · rcases hb with hb | ⟨m, s, se, c, hb⟩
    · have hlt := hB b hb
      exact hk b (Nat.lt_of_lt_of_le hlt h.bl.size) (fun e => by have := (hlo b e).1; omega) (by omega)
    · rw [hko.same b _ hb rfl, hb]
set_option maxRecDepth 100000 in
set_option maxHeartbeats 1000000 in
theorem aps_any (b1 b2 b3 ah : Nat) (q : Pl) (x qm : Int) (L : List Int) (w : World) (hway : Way w b1 b2 b3 q x qm ah) (hah : ah ≤ q.qs.length) (hL : ∀ x, q.hf x ≠ 0 → x ∈ L) (hR : ∀ x, q.hf x ≠ 0 → R64 x) (hlq : q.qs.length ≤ maxLen) (hN : L.length + q.qs.length < 4200000000000) :
    Calls Tryz.prog 110 #[.slice none 0 0, .func (.func 112) #[] #[ptr b1, ptr b2, ptr b3]] w fun e w' => ∃ (v : Value) (xs : List Int), e = .returned v ∧ ((∀ y ∈ xs, inW q.hf q.qs x qm ah y) ∧ ∀ y, inW q.hf q.qs x qm ah y → y ∈ xs) ∧ w'.ownsRow (w.heap.size + 1) 3 1 v xs.length (xs.map fun z => I z) ∧ G w w' ∧ xs.length ≤ L.length + q.qs.length := by
  refine (callsIn_wide (n := 5)).1 ?_
  refine callsIn_of_wp_marks Tryz.func110 rfl trivial ?_ rfl
  simp only [Tryz.ntmps110, List.size_toArray, List.length_cons, List.length_nil, Nat.reduceAdd, Nat.reduceSub, Array.replicate_succ, Array.replicate_zero, List.push_toArray, List.append_toArray, List.nil_append, List.cons_append]
  have g0 : G w (w.alloc (.cells #[.slice none 0 0] 46)) := (G.refl w).alloc _
  have k0 := Blk.new w [.slice none 0 0] 46
  have hs0 : (w.alloc (.cells #[.slice none 0 0] 46)).heap.size = w.heap.size + 1 := by simp
  have hI0 : ApI w [] (w.alloc (.cells #[.slice none 0 0] 46)) := ⟨⟨_, k0, ⟨rfl, .inl ⟨rfl, rfl⟩⟩⟩, g0, by omega⟩
  have hway0 := hway.keep (fun b hb => g0.block b (hway.lt hb)) g0.size
  have hlt := fun b (hb : wayB b1 b2 b3 q b) => hway.lt hb
  have hmix : Tryz.prog.follows .mixedOrders = true := by kernel_rfl
  clear k0 hway
  gi_wp2
  generalize w.alloc (.cells #[.slice none 0 0] 46) = W0 at g0 hs0 hI0 hway0 ⊢
  refine wpIn_rangeFunc_ownF rfl (by omega) (gf := 112) (lb := #[ptr b1, ptr b2, ptr b3]) rfl trivial (enters_of Tryz.func112 (by kernel_rfl) rfl)
    (seq_any 4 _ _ _ ah q x qm L W0 (by omega) hah hL hR hlq hway0) WayK.trans (WayK.put (fun b hb => hway0.lt hb)) (Below.refl _ _) (fun _ => rfl)
    (fun pre W => ApI w pre W ∧ pre.length ≤ L.length + q.qs.length)
    (fun _ _ _ => False)
    (by rw [hs0]; exact fun s W W' row h hg hr => ⟨ApI.own w s W W' row h.1 hg hr, h.2⟩)
    (fun c s W W' row h _ _ => h.elim)
    ⟨hI0, Nat.zero_le _⟩
    (fun y => { tmps := #[.slice none 0 0, .func (.func 112) #[] #[ptr b1, ptr b2, ptr b3], ptr w.heap.size, undef, .slice none 0 0, I y, .func (.func 112) #[] #[ptr b1, ptr b2, ptr b3], I y, undef, undef, undef, undef, undef], defers := [] }) ?assign ?body ?done ?stop
  case assign =>
    intro l y W K hK
    simp only [List.zip_toArray, List.zip_cons_cons, List.zip_nil_right, List.size_toArray, List.length_cons, List.length_nil, List.foldl_toArray', List.foldl_cons, List.foldl_nil, List.setIfInBounds_toArray, List.set_cons_succ, List.set_cons_zero]
    gi_wp2
    exact hK
  case body =>
    rintro l pre y W ⟨hI, -⟩ hlen
    obtain ⟨uv, va9, vc9, w9, r0, r1, r2, r3, r4, r5⟩ := hI.put y (by omega) (wayB b1 b2 b3 q) hlt
    have c0 := r0.cell
    have c9 := r2.cell
    have f9 := r2.frozen
    have R1 := hide r1; have R3 := hide r3; have R4 := hide r4; have R5 := hide r5
    have HPL : Hid ((pre ++ [y]).length ≤ L.length + q.qs.length) := by rw [Hid, List.length_append]; exact hlen
    clear r0 r1 r2 r3 r4 r5 hI hlen
    gi_wp2_with (first | (gi_at_builtin; refine wpListIn_append_run rfl _ _ 46 rfl _ _ rfl rfl R1.out ?_) | fail)
    exact ⟨R4.out, R5.out, R3.out, HPL.out⟩
  case done =>
    rintro D ys W hD hS ⟨hI, hle⟩ hK
    obtain ⟨v, h1, h2⟩ := hI.box
    have c1 := h1.cell
    obtain ⟨va, vc, rfl⟩ := row_form h2
    have H2 := hide h2; have HI := hide hI; have HS := hide hS; have HLE := hide hle
    clear h2 hI hS hle
    gi_wp2
    refine ⟨by simp, .inl ⟨_, _, rfl, run_takeDeferred hK, ?_⟩⟩
    refine ⟨_, results_tmp rfl _ _ _, _, ys, rfl, HS.out, ?_, HI.out.bl.trans (belowK_b (w := w) (Nat.le_refl _) W D _ _ (by omega) hK rfl rfl), HLE.out⟩
    refine own_chg (F := fun k => k = D) H2.out (chg_put hK) (fun k hk e => ?_)
    obtain ⟨cs, hcs⟩ := own_cells H2.out hk
    rw [e, hK] at hcs
    cases hcs
  case stop => exact fun D c pre W _ _ h _ => h.elim
set_option maxRecDepth 100000 in
set_option maxHeartbeats 1000000 in
theorem col_any (b1 b2 b3 ah : Nat) (q : Pl) (x qm : Int) (L : List Int) (w : World) (hway : Way w b1 b2 b3 q x qm ah) (hah : ah ≤ q.qs.length) (hL : ∀ x, q.hf x ≠ 0 → x ∈ L) (hR : ∀ x, q.hf x ≠ 0 → R64 x) (hlq : q.qs.length ≤ maxLen) (hN : L.length + q.qs.length < 4200000000000) :
    Calls Tryz.prog 76 #[.func (.func 112) #[] #[ptr b1, ptr b2, ptr b3]] w fun e w' => ∃ (v : Value) (xs : List Int), e = .returned v ∧ ((∀ y ∈ xs, inW q.hf q.qs x qm ah y) ∧ ∀ y, inW q.hf q.qs x qm ah y → y ∈ xs) ∧ w'.ownsRow (w.heap.size + 1) 3 1 v xs.length (xs.map fun z => I z) ∧ G w w' ∧ xs.length ≤ L.length + q.qs.length := by
  have KA := hide (aps_any b1 b2 b3 ah q x qm L w hway hah hL hR hlq hN)
  clear hway hah hL hR hlq hN
  go_enter Tryz.func76, Tryz.ntmps76
  go_wp2_with (first | (go_at_call 110; refine Hid.out ?_) | fail)
  unfold Hid
  refine KA.out.mono ?_
  rintro e w' ⟨v, xs, rfl, h1, h2, h3, h4⟩
  go_wp2_with fail
  go_ret
  exact ⟨v, xs, rfl, h1, h2, h3, h4⟩
set_option maxRecDepth 100000 in
set_option maxHeartbeats 1000000 in
theorem sod_any (b1 b2 b3 ah : Nat) (q : Pl) (x qm : Int) (L : List Int) (w : World) (hway : Way w b1 b2 b3 q x qm ah) (hah : ah ≤ q.qs.length) (hL : ∀ x, q.hf x ≠ 0 → x ∈ L) (hR : ∀ x, q.hf x ≠ 0 → R64 x) (hlq : q.qs.length ≤ maxLen) (hN : L.length + q.qs.length < 4200000000000) :
    Calls Tryz.prog 46 #[.func (.func 112) #[] #[ptr b1, ptr b2, ptr b3]] w fun e w' => ∃ (v : Value) (xs : List Int), e = .returned v ∧ ((∀ y ∈ xs, inW q.hf q.qs x qm ah y) ∧ ∀ y, inW q.hf q.qs x qm ah y → y ∈ xs) ∧ w'.ownsRow (w.heap.size + 1) 3 1 v xs.length ((srt xs).map fun z => I z) ∧ G w w' ∧ xs.length ≤ L.length + q.qs.length := by
  have KA := hide (col_any b1 b2 b3 ah q x qm L w hway hah hL hR hlq hN)
  clear hway hah hL hR hlq
  go_enter Tryz.func46, Tryz.ntmps46
  go_wp2_with (first | (go_at_call 76; refine Hid.out ?_) | fail)
  unfold Hid
  refine KA.out.mono ?_
  rintro e w' ⟨v, xs, rfl, h1, h2, h3, h4⟩
  have KS := hide (sort_row w' (w.heap.size + 1) v xs h2 (by omega))
  go_wp2_with (first | (go_at_call 77; refine Hid.out ?_) | fail)
  unfold Hid
  refine KS.out.mono ?_
  rintro e w2 ⟨rfl, h5, h6⟩
  have HG : Hid (G w w2) := h3.of_chg' h6 (fun k hk => by have := (World.ownsRow.lt h2 k hk).1; omega)
  have H5 := hide h5
  have H14 := hide (And.intro h1 h4)
  clear h1 h2 h3 h4 h5 h6 KS KA
  go_wp2_with fail
  go_ret
  exact ⟨v, xs, rfl, H14.out.1, H5.out, HG.out, H14.out.2⟩
end
open Go.RowKit Go.Sort Go.Shelf

/-- Each once. -/
def cmp (zs : List Int) : List Int := Lib.compact zs
theorem cmp_upto (d : Array Int) : ∀ m, m ≤ d.size → (∀ i j, i ≤ j → j < d.size → d[i]! ≤ d[j]!) → (Lib.compactUpTo d m).Pairwise (· < ·) ∧ (∀ y ∈ Lib.compactUpTo d m, ∃ j, j < m ∧ d[j]! = y) ∧ ∀ j, j < m → d[j]! ∈ Lib.compactUpTo d m
  | 0, _, _ => ⟨by simp [Lib.compactUpTo], fun y hy => by simp [Lib.compactUpTo] at hy, fun j hj => by omega⟩
  | m + 1, hm, hs => by
    obtain ⟨h1, h2, h3⟩ := cmp_upto d m (by omega) hs
    rw [Lib.compactUpTo_succ]
    by_cases hk : Lib.keeps d m = true
    · rw [if_pos hk]
      have hlt : ∀ y ∈ Lib.compactUpTo d m, y < d[m]! := fun y hy => by
        obtain ⟨j, hj, rfl⟩ := h2 y hy
        have a1 := hs j (m - 1) (by omega) (by omega)
        have a2 := hs (m - 1) m (by omega) (by omega)
        have a3 : d[m]! ≠ d[m - 1]! := by
          unfold Lib.keeps at hk
          rcases of_decide_eq_true hk with e | e
          · omega
          · exact e
        omega
      refine ⟨?_, fun y hy => ?_, fun j hj => ?_⟩
      · rw [List.pairwise_append]
        exact ⟨h1, List.pairwise_singleton _ _, fun a ha b hb => by rw [List.mem_singleton.1 hb]; exact hlt a ha⟩
      · rcases List.mem_append.1 hy with hy | hy
        · obtain ⟨j, hj, e⟩ := h2 y hy
          exact ⟨j, by omega, e⟩
        · exact ⟨m, by omega, (List.mem_singleton.1 hy).symm⟩
      · rw [List.mem_append]
        by_cases e : j = m
        · subst e; exact .inr (List.mem_singleton.2 rfl)
        · exact .inl (h3 j (by omega))
    · rw [if_neg hk, List.append_nil]
      have hne : ¬ (m = 0 ∨ d[m]! ≠ d[m - 1]!) := fun e => hk (by unfold Lib.keeps; exact decide_eq_true e)
      rw [not_or] at hne
      have e1 : d[m]! = d[m - 1]! := Decidable.byContradiction fun e => hne.2 e
      refine ⟨h1, fun y hy => ?_, fun j hj => ?_⟩
      · obtain ⟨j, hj, e⟩ := h2 y hy
        exact ⟨j, by omega, e⟩
      · by_cases e : j = m
        · subst e
          rw [e1]
          exact h3 (j - 1) (by have := hne.1; omega)
        · exact h3 j (by omega)
theorem cmp_srt (zs : List Int) : (cmp (srt zs)).Pairwise (· < ·) ∧ ∀ y, y ∈ cmp (srt zs) ↔ y ∈ zs := by
  have hup := srt_up zs
  have hget : ∀ (i : Nat) (h : i < (srt zs).length), (srt zs).toArray[i]! = (srt zs)[i] := fun i h => by simp [h]
  obtain ⟨h1, h2, h3⟩ := cmp_upto (srt zs).toArray (srt zs).length (by simp) (fun i j hij hj => by
    have hj' : j < (srt zs).length := by simpa using hj
    rw [hget i (by omega), hget j hj']
    by_cases e : i = j
    · subst e; exact Int.le_refl _
    · exact List.pairwise_iff_getElem.1 hup i j (by omega) hj' (by omega))
  refine ⟨h1, fun y => ⟨fun hy => ?_, fun hy => ?_⟩⟩
  · obtain ⟨j, hj, e⟩ := h2 y hy
    rw [hget j hj] at e
    exact (srt_perm zs).mem_iff.1 (by rw [← e]; exact List.getElem_mem hj)
  · obtain ⟨j, hj, e⟩ := List.mem_iff_getElem.1 ((srt_perm zs).mem_iff.2 hy)
    rw [← e, ← hget j hj]
    exact h3 j hj
theorem cmp_len (zs : List Int) : (cmp zs).length ≤ zs.length := by
  unfold cmp Lib.compact Lib.compactUpTo
  rw [List.length_map]
  exact Nat.le_trans (List.length_filter_le _ _) (by simp)
set_option maxRecDepth 100000 in
set_option maxHeartbeats 1000000 in
theorem compact_row (W : World) (lo : Nat) (v : Value) (zs : List Int) (h : W.ownsRow lo 3 1 v zs.length (zs.map fun z => I z)) (hl : zs.length < 4611686018427387904) :
    Calls Tryz.prog 93 #[v] W fun e W' => ∃ v', e = .returned v' ∧ W'.ownsRow lo 3 1 v' (cmp zs).length ((cmp zs).map fun z => I z) ∧ Chg (fun k => v.ownBlock = some k) W W' := by
  rcases h.2 with ⟨rfl, h0⟩ | ⟨g, cap, cur, rfl, hlo, hg, hc, hm, hs, ht⟩
  · have hz : zs = [] := List.eq_nil_of_length_eq_zero h0
    subst hz
    go_enter Tryz.func93, Tryz.ntmps93
    go_wp2
    go_ret
    exact ⟨_, rfl, h, Chg.refl _ _⟩
  · have hH : Holds (Value.int .i64) W g 0 zs.toArray := holds_of_blockI hg (by rw [Nat.mul_one] at ht; exact ht)
    have := AnyE.slices_Compact Tryz.compI (Value.int .i64) (fun _ => rfl) (EqlAt.intD _ _ _) (NeqAt.intD _ _ _) (0 : Int) (by exact Tryz.zeroValue3) g 0 cap zs.toArray W hH (by simp; omega) (by simpa using hc)
    simp only [List.size_toArray] at this
    refine Calls.mono this ?_
    rintro e W' ⟨rfl, q, rfl⟩
    have hcl := cmp_len zs
    have hlen : (Lib.compactUpTo zs.toArray zs.length ++ List.replicate (zs.length - (Lib.compactUpTo zs.toArray zs.length).length) (0 : Int)).length = zs.length := by
      rw [List.length_append, List.length_replicate]
      have : (Lib.compactUpTo zs.toArray zs.length).length ≤ zs.length := hcl
      omega
    have hrow := ownsRow_sortedI (w := W) (n := q) (os := #[]) (ss := zs) hlen hlo hg hc hm hs
    have hgr := grownBy_sortedI (w := W) (g := g) (n := q) (os := #[]) (Lib.compactUpTo zs.toArray zs.length ++ List.replicate (zs.length - (Lib.compactUpTo zs.toArray zs.length).length) (0 : Int)).toArray
    have he : ∀ w : World, grow w #[] = w := fun w => by simp [grow]
    rw [he] at hrow hgr
    refine ⟨_, rfl, ?_, ⟨hgr.os, hgr.tape, hgr.output, hgr.size, fun k hk hn => hgr.block k hk (fun e => hn e.symm)⟩⟩
    rcases hrow.2 with ⟨e, -⟩ | ⟨g', cap', cur', e, a1, a2, a3, a4, a5, a6⟩
    · cases e
    · cases e
      refine ⟨by simp, .inr ⟨g, cap, cur', rfl, a1, a2, Nat.le_trans hcl hc, a4, a5, ?_⟩⟩
      have : (cur'.toList.take (zs.length * 1)).take (cmp zs).length = ((Lib.compactUpTo zs.toArray zs.length ++ List.replicate (zs.length - (Lib.compactUpTo zs.toArray zs.length).length) (0 : Int)).map (Value.int .i64)).take (cmp zs).length := by rw [a6]
      rw [List.take_take, Nat.mul_one, Nat.min_eq_left hcl, List.map_append, List.take_append_of_le_length (by rw [List.length_map]; exact Nat.le_refl _)] at this
      have e2 : ((Lib.compactUpTo zs.toArray zs.length).map (Value.int .i64)).take (cmp zs).length = (Lib.compactUpTo zs.toArray zs.length).map (Value.int .i64) := List.take_of_length_le (by rw [List.length_map]; exact Nat.le_refl _)
      rw [e2] at this
      rw [Nat.mul_one]
      exact this
set_option maxRecDepth 100000 in
set_option maxHeartbeats 1000000 in
theorem index_any (w : World) (v : Value) (qs : List (Int × Int)) (x g : Int) (hq : QSl w v qs) (i : Nat) (hi : qs[i]? = some (x, g)) (hno : ∀ j, j < i → qs[j]? ≠ some (x, g)) :
    Calls Tryz.prog 94 #[v, .agg #[I x, I g]] w fun e w' => e = .returned (I (i : Int)) ∧ G w w' := by
  rcases hq with ⟨-, rfl⟩ | ⟨gb, cap, rest, rfl, hb, hl, hm⟩
  · simp at hi
  have hil := (List.getElem?_eq_some_iff.1 hi).1
  have hmx : maxLen ≤ 9223372036854775807 := of_decide_eq_true (by kernel_rfl)
  have HIL := hide hil
  have HB := hide hb
  have HX := hide (Blk.new w [I x, I g] 74)
  have HG : Hid (G w (w.alloc (.cells #[I x, I g] 74))) := (G.refl w).alloc _
  have HI := hide hi; have HNO := hide hno
  have HQL : Hid (qs.length ≤ 9223372036854775807) := by show _ ≤ _; omega
  clear hi hno hb hl hm hil hmx
  go_enter Tryz.func94, Tryz.ntmps94
  go_wp2_with fail
  generalize w.alloc (.cells #[I x, I g] 74) = w1 at HX HG ⊢
  generalize w.heap.size = xb at HX ⊢
  go_loopw [8] (fun iv wr => ∃ j : Nat, j ≤ i ∧ iv = I (j : Int) ∧ G w1 wr) (fun iv _ => qs.length - (RowKit.intOf iv).toNat)
  case atStart => exact ⟨0, Nat.zero_le _, rfl, G.refl _⟩
  case round =>
    obtain ⟨j, hj, rfl, hgj⟩ := hrel
    have hil := HIL.out
    have hjl : j < qs.length := by omega
    have hjI : (j : Int) < (qs.length : Int) := by omega
    obtain ⟨⟨y, gy⟩, hy⟩ : ∃ a, qs[j]? = some a := ⟨_, List.getElem?_eq_getElem hjl⟩
    obtain ⟨k1, k2⟩ := qc_at qs rest j y gy hy
    have c1 := ((HB.out.G (HG.out.trans hgj)).cell (j * 2)).trans k1
    have c2 := ((HB.out.G (HG.out.trans hgj)).cell (j * 2 + 1)).trans k2
    have c3 := (HX.out.G hgj).cell
    have hwj : wrap64 ((j : Int) + 1) = (j : Int) + 1 := by have := HQL.out; unfold wrap64; omega
    have HWJ := hide hwj
    have HGJ := hide hgj
    have HJL := hide hjl
    by_cases e1 : x = y
    · subst e1
      by_cases e2 : g = gy
      · subst e2
        have hji : j = i := by
          refine Decidable.byContradiction fun e => ?_
          exact HNO.out j (by omega) hy
        subst hji
        clear hgj hjl hj hil hy k1 k2 hwj
        go_wp2
        go_quiet (fail)
        generalize hV : World.drewN wr _ = V
        have HGV : Hid (G w1 V) := by rw [← hV]; exact HGJ.out.drewN _
        clear hV c1 c2 c3
        go_wp2
        go_ret
        exact ⟨rfl, HG.out.trans HGV.out⟩
      · have hji : j < i := by
          refine Decidable.byContradiction fun e => ?_
          have e3 : j = i := by omega
          rw [e3, HI.out] at hy
          cases hy
          exact e2 rfl
        have d1 : (g == gy) = false := by simp [e2]
        have d2 : decide (g = gy) = false := by simp [e2]
        have HJI := hide hji
        clear hgj hjl hj hil hy k1 k2 hwj hji
        go_wp2
        go_quiet (fail)
        generalize hV : World.drewN wr _ = V
        have HGV : Hid (G w1 V) := by rw [← hV]; exact HGJ.out.drewN _
        clear hV c1 c2 c3
        go_wp2
        exact ⟨⟨j + 1, HJI.out, by rw [HWJ.out]; exact rl1 j, HGV.out⟩, by rw [HWJ.out]; exact ms_end HJL.out⟩
    · have hji : j < i := by
        refine Decidable.byContradiction fun e => ?_
        have e3 : j = i := by omega
        rw [e3, HI.out] at hy
        cases hy
        exact e1 rfl
      have d1 : (x == y) = false := by simp [e1]
      have d2 : decide (x = y) = false := by simp [e1]
      have HJI := hide hji
      clear hgj hjl hj hil hy k1 k2 hwj hji
      go_wp2
      go_quiet (fail)
      generalize hV : World.drewN wr _ = V
      have HGV : Hid (G w1 V) := by rw [← hV]; exact HGJ.out.drewN _
      clear hV c1 c2 c3
      go_wp2
      exact ⟨⟨j + 1, HJI.out, by rw [HWJ.out]; exact rl1 j, HGV.out⟩, by rw [HWJ.out]; exact ms_end HJL.out⟩
end
open Go.RowKit

set_option maxRecDepth 100000 in
set_option maxHeartbeats 1000000 in
theorem wf_mem (t : Nat) (s : Gs) (x : Int) (p : Pt) (q : Pl) (i : Nat) (L : List Int) (w : World) (h : TT w t s) (ht : Tb w) (hx : R64 x) (hp : s.lv x = some p) (hat : p.at_.ok) (hq : s.pl p.at_ = some q) (hi : q.qs[i]? = some (x, p.goal)) (hno : ∀ j, j < i → q.qs[j]? ≠ some (x, p.goal)) (hL : ∀ y, q.hf y ≠ 0 → y ∈ L) (hR : ∀ y, q.hf y ≠ 0 → R64 y) (hlq : q.qs.length ≤ maxLen) (hN : L.length + q.qs.length < 4200000000000) :
    Calls Tryz.prog 63 #[ptr t, I x] w fun e w' => ∃ (v : Value) (ws : List Int), e = .returned v ∧ ws.Pairwise (· < ·) ∧ (∀ y, y ∈ ws ↔ inW q.hf q.qs x p.goal i y) ∧ w'.ownsRow w.heap.size 3 1 v ws.length (ws.map fun z => I z) ∧ G w w' ∧ ws.length ≤ L.length + q.qs.length := by
  have hil := (List.getElem?_eq_some_iff.1 hi).1
  have HBD : Hid (i ≤ q.qs.length ∧ (∀ y, q.hf y ≠ 0 → y ∈ L) ∧ (∀ y, q.hf y ≠ 0 → R64 y) ∧ q.qs.length ≤ maxLen ∧ L.length + q.qs.length < 4200000000000) := ⟨Nat.le_of_lt hil, hL, hR, hlq, hN⟩
  have hc := h.tb.cell
  have hl1 := h.lm.look kyI Tryz.underlying58 (Tryz.zeroValue63 w) (kyI_ok.2 hx)
  rw [hp] at hl1
  simp only [Option.map_some, Option.getD_some] at hl1
  have hl2 := h.pm.lookN kyR Tryz.underlying59 Tryz.zeroValue76 (kyR_ok.2 hat)
  rw [hq] at hl2
  simp only [Option.map_some, Option.getD_some, Rs.v] at hl2
  have hpc := (h.pt x p hp).blk.cell
  simp only [Pt.cells] at hpc
  obtain ⟨qa, qn, qcap, hqv⟩ := qsl_form (h.pl _ q hq).q
  have HT := hide h; have HTB := hide ht; have HP := hide hp; have HQ := hide hq; have HI := hide hi; have HNO := hide hno; have HQV := hide hqv
  clear h ht hp hq hi hno hqv hx hat hil hL hR hlq hN
  go_enter Tryz.func63, Tryz.ntmps63
  go_wp2
  go_quiet (fail)
  generalize hV : World.drewN w _ = V
  have HGV : Hid (G w V) := by rw [← hV]; exact (G.refl w).drewN _
  clear hV hc hl1 hl2 hpc
  have hpc := ((HT.out.G HGV.out).pt x p HP.out).blk.cell
  simp only [Pt.cells] at hpc
  go_wp2_with fail
  go_upto_region 4 with fail
  obtain ⟨w2, hw2⟩ : ∃ w2, w2 = V.alloc (.cells #[I x, I p.goal] 74) := ⟨_, rfl⟩
  rw [← hw2]
  have HX2 : Hid (Blk w2 V.heap.size 74 [I x, I p.goal]) := by rw [hw2]; exact Blk.new V _ 74
  have HGW : Hid (G w w2) := by rw [hw2]; exact HGV.out.alloc _
  clear hw2 hpc
  generalize V.heap.size = xb at HX2 ⊢
  have HT2 : Hid (TT w2 t s ∧ Tb w2) := ⟨HT.out.G HGW.out, HTB.out.G HGW.out⟩
  have HCC : Hid (∀ U, G w2 U → (∀ o, U.cell? ⟨xb, o, none⟩ = ([I x, I p.goal] : List Value)[o]?) ∧ ∀ o, U.cell? ⟨q.blk, o, none⟩ = ([.map (some q.hb), .slice qa qn qcap] : List Value)[o]?) := fun U gU => ⟨(HX2.out.G gU).cell, by have := ((HT2.out.1.G gU).pl _ q HQ.out).blk.cell; rw [HQV.out] at this; exact this⟩
  have KI : Hid (∀ U, G w2 U → Calls Tryz.prog 94 #[.slice qa qn qcap, .agg #[I x, I p.goal]] U fun e w' => e = .returned (I (i : Int)) ∧ G U w') := fun U gU => by
    rw [← HQV.out]
    exact index_any U q.q q.qs x p.goal ((HT2.out.1.G gU).pl _ q HQ.out).q i HI.out HNO.out
  refine wp_region_noPanic ?_
  refine wp_region_held_drew (S := (fun U => G w2 U)) (by kernel_rfl) ((G.refl w2).drew) (fun hHeld => ?_)
  refine wpAnyH_take (i := 0) (v := ?_) rfl (by kernel_rfl) (by kernel_rfl) (by kernel_rfl) (fun _ _ _ h => h) (Or.inl ⟨by rfl, ?_⟩) hHeld ?_
  rotate_left 1
  · (intro w hSw; obtain ⟨q1, q2⟩ := HCC.out _ hSw; go_simp; try with_reducible rfl)
  try simp only [Act.put, List.getElem_toArray, List.getElem_cons_zero, List.setIfInBounds_toArray, List.set_cons_zero, List.set_cons_succ]
  refine wpAnyH_take (i := 1) (v := ?_) rfl (by kernel_rfl) (by kernel_rfl) (by kernel_rfl) (fun _ _ _ h => h) (Or.inl ⟨by rfl, ?_⟩) hHeld ?_
  rotate_left 1
  · (intro w hSw; obtain ⟨q1, q2⟩ := HCC.out _ hSw; go_simp; try with_reducible rfl)
  try simp only [Act.put, List.getElem_toArray, List.getElem_cons_zero, List.getElem_cons_succ, List.setIfInBounds_toArray, List.set_cons_zero, List.set_cons_succ]
  refine wpAnyH_take (i := 2) (v := ?_) rfl (by kernel_rfl) (by kernel_rfl) (by kernel_rfl) (fun _ _ _ h => h) (Or.inl ⟨by rfl, ?_⟩) hHeld ?_
  rotate_left 1
  · (intro w hSw; obtain ⟨q1, q2⟩ := HCC.out _ hSw; go_simp; try with_reducible rfl)
  try simp only [Act.put, List.getElem_toArray, List.getElem_cons_zero, List.getElem_cons_succ, List.setIfInBounds_toArray, List.set_cons_zero, List.set_cons_succ]
  refine wpAnyH_take (i := 3) (v := ?_) rfl (by kernel_rfl) (by kernel_rfl) (by kernel_rfl) (fun _ _ _ h => h) (Or.inl ⟨by rfl, ?_⟩) hHeld ?_
  rotate_left 1
  · (intro w hSw; obtain ⟨q1, q2⟩ := HCC.out _ hSw; go_simp; try with_reducible rfl)
  try simp only [Act.put, List.getElem_toArray, List.getElem_cons_zero, List.getElem_cons_succ, List.setIfInBounds_toArray, List.set_cons_zero, List.set_cons_succ]
  refine wpAnyH_take (i := 4) (v := ?_) rfl (by kernel_rfl) (by kernel_rfl) (by kernel_rfl) (fun _ _ _ h => h) (Or.inl ⟨by rfl, ?_⟩) hHeld ?_
  rotate_left 1
  · (intro w hSw; obtain ⟨q1, q2⟩ := HCC.out _ hSw; go_simp; try with_reducible rfl)
  try simp only [Act.put, List.getElem_toArray, List.getElem_cons_zero, List.getElem_cons_succ, List.setIfInBounds_toArray, List.set_cons_zero, List.set_cons_succ]
  refine wpAnyH_take (i := 5) (v := ?_) rfl (by kernel_rfl) (by kernel_rfl) (by kernel_rfl) (fun _ _ _ h => h) (Or.inl ⟨by rfl, ?_⟩) hHeld ?_
  rotate_left 1
  · (intro w hSw; obtain ⟨q1, q2⟩ := HCC.out _ hSw; go_simp; try with_reducible rfl)
  try simp only [Act.put, List.getElem_toArray, List.getElem_cons_zero, List.getElem_cons_succ, List.setIfInBounds_toArray, List.set_cons_zero, List.set_cons_succ]
  refine wpAnyH_take (i := 6) (v := ?_) rfl (by kernel_rfl) (by kernel_rfl) (by kernel_rfl) (fun _ _ _ h => h) (Or.inl ⟨by rfl, ?_⟩) hHeld ?_
  rotate_left 1
  · (intro w hSw; obtain ⟨q1, q2⟩ := HCC.out _ hSw; go_simp; try with_reducible rfl)
  try simp only [Act.put, List.getElem_toArray, List.getElem_cons_zero, List.getElem_cons_succ, List.setIfInBounds_toArray, List.set_cons_zero, List.set_cons_succ]
  refine wpAnyH_ready (rs := [7]) (by kernel_rfl) (by simp) (AllReadyH.cons rfl (fun K hK => ?_) AllReadyH.nil)
  have hgc := hHeld
  clear hHeld
  go_simp
  with_reducible refine (KI.out _ hgc).mono ?_
  rintro e w3 ⟨rfl, hg3⟩
  have HG3 := hide (hgc.trans hg3)
  clear hg3 hgc
  refine hK.out _ _ (HG3.out) (fun hHeld => ?_)
  clear hK K
  try simp only [Act.put, List.getElem_toArray, List.getElem_cons_zero, List.getElem_cons_succ, List.setIfInBounds_toArray, List.set_cons_zero, List.set_cons_succ]
  refine wpAnyH_ready (rs := [8]) (by kernel_rfl) (by simp) (AllReadyH.cons rfl (fun K hK => ?_) AllReadyH.nil)
  clear hHeld
  go_simp
  refine (inway_any q x p.goal i w3).mono ?_
  rintro e w4 ⟨rfl, rfl⟩
  have HW4 : Hid (Way (wayW w3 q x p.goal i) w3.heap.size (w3.heap.size + 1) (w3.heap.size + 2) q x p.goal i ∧ G w2 (wayW w3 q x p.goal i)) := by
    have gy : G w3 (wayW w3 q x p.goal i) := (((G.refl _).alloc _).alloc _).alloc _
    have h3 := HT2.out.1.G HG3.out
    exact ⟨way_of x p.goal i (HT2.out.2.G HG3.out) (h3.pl _ q HQ.out).blk (h3.pl _ q HQ.out).hm (h3.pl _ q HQ.out).q, HG3.out.trans gy⟩
  generalize wayW w3 q x p.goal i = w4 at HW4 ⊢
  refine hK.out _ _ (HW4.out.2) (fun hHeld => ?_)
  clear hK K
  try simp only [Act.put, List.getElem_toArray, List.getElem_cons_zero, List.getElem_cons_succ, List.setIfInBounds_toArray, List.set_cons_zero, List.set_cons_succ]
  refine wpAnyH_ready (rs := [9]) (by kernel_rfl) (by simp) (AllReadyH.cons rfl (fun K hK => ?_) AllReadyH.nil)
  clear hHeld
  go_simp
  refine (sod_any _ _ _ i q x p.goal L w4 HW4.out.1 HBD.out.1 HBD.out.2.1 HBD.out.2.2.1 HBD.out.2.2.2.1 HBD.out.2.2.2.2).mono ?_
  rintro e w5 ⟨v5, xs, rfl, hS5, hrow5, hg5, hle5⟩
  obtain ⟨va5, vc5, rfl⟩ := row_form hrow5
  have H5 : Hid (((∀ y ∈ xs, inW q.hf q.qs x p.goal i y) ∧ ∀ y, inW q.hf q.qs x p.goal i y → y ∈ xs) ∧ w5.ownsRow w.heap.size 3 1 (.slice va5 xs.length vc5) xs.length ((srt xs).map fun z => I z) ∧ xs.length ≤ L.length + q.qs.length) := ⟨hS5, own_lo hrow5 (by have := (HGW.out.trans HW4.out.2).size; omega), hle5⟩
  have HG5 := hide (HW4.out.2.trans hg5)
  have HLO5 : Hid (∀ k, (Value.slice va5 xs.length vc5).ownBlock = some k → w2.heap.size ≤ k) := fun k hk => by have h1 := (World.ownsRow.lt hrow5 k hk).1; have h2 := HW4.out.2.size; omega
  clear hS5 hrow5 hg5 hle5
  refine hK.out _ _ (HG5.out) (fun hHeld => ?_)
  clear hK K
  try simp only [Act.put, List.getElem_toArray, List.getElem_cons_zero, List.getElem_cons_succ, List.setIfInBounds_toArray, List.set_cons_zero, List.set_cons_succ]
  refine wpAnyH_ready (rs := [10]) (by kernel_rfl) (by simp) (AllReadyH.cons rfl (fun K hK => ?_) AllReadyH.nil)
  clear hHeld
  go_simp
  have hr5 := H5.out.2.1
  rw [← srt_len xs] at hr5
  have KC := hide (compact_row w5 w.heap.size _ (srt xs) hr5 (by rw [srt_len]; have := H5.out.2.2; have := HBD.out.2.2.2.2; omega))
  rw [srt_len xs] at KC
  clear hr5
  with_reducible refine KC.out.mono ?_
  rintro e w6 ⟨v6, rfl, hrow6, hc6⟩
  obtain ⟨va6, vc6, rfl⟩ := row_form hrow6
  have H6 := hide hrow6
  have HG6 : Hid (G w2 w6) := HG5.out.of_chg' hc6 (fun k hk => HLO5.out k hk)
  clear hrow6 hc6 KC
  refine hK.out _ _ (HG6.out) (fun hHeld => ?_)
  clear hK K
  try simp only [Act.put, List.getElem_toArray, List.getElem_cons_zero, List.getElem_cons_succ, List.setIfInBounds_toArray, List.set_cons_zero, List.set_cons_succ]
  refine wpAnyH_take (i := 11) (v := ?_) rfl (by kernel_rfl) (by kernel_rfl) (by kernel_rfl) (fun _ _ _ h => h) (Or.inl ⟨by rfl, ?_⟩) hHeld ?_
  rotate_left 1
  · (intro w hSw; (try dsimp only at hSw); go_simp; try with_reducible rfl)
  try simp only [Act.put, List.getElem_toArray, List.getElem_cons_zero, List.getElem_cons_succ, List.setIfInBounds_toArray, List.set_cons_zero, List.set_cons_succ]
  refine wpAnyH_done (by kernel_rfl) ?_ _
  refine NoPanic.normal ?_
  clear hHeld
  go_wp2_with fail
  go_ret
  obtain ⟨c1, c2⟩ := cmp_srt xs
  refine ⟨_, cmp (srt xs), rfl, c1, fun y => ?_, H6.out, HGW.out.trans HG6.out, ?_⟩
  · rw [c2 y]
    exact ⟨H5.out.1.1 y, H5.out.1.2 y⟩
  · have h1 := cmp_len (srt xs)
    rw [srt_len] at h1
    have h2 := H5.out.2.2
    omega
theorem nodup_sub_le0 : ∀ (l L : List Int), l.Nodup → (∀ a ∈ l, a ∈ L) → l.length ≤ L.length
  | [], L, _, _ => Nat.zero_le _
  | a :: l, L, hn, hs => by
    have ha := hs a (List.mem_cons_self ..)
    have hp := (List.perm_cons_erase ha).length_eq
    have h1 := nodup_sub_le0 l (L.erase a) (List.nodup_cons.1 hn).2 (fun c hc => (List.mem_erase_of_ne (fun e => (List.nodup_cons.1 hn).1 (by rw [← e]; exact hc))).2 (hs c (List.mem_cons_of_mem _ hc)))
    rw [hp]
    simp only [List.length_cons]
    omega
/-- Who is waited for. -/
def Wy (m : Ms) (x : Int) (p : Pm) (y : Int) : Prop := ∃ i, (m.qs p.at_)[i]? = some (x, p.goal) ∧ inW (m.hl p.at_) (m.qs p.at_) x p.goal i y
theorem waitedFor_t {w : World} {t : Nat} {s : Gs} {m : Ms} {L : List Int} {LR : List Rs} {x : Int} {pm : Pm} (h : GT w t s m L LR) (hpm : m.lv x = some pm) (hg : pm.goal ≠ 0) (hL : L.length < 2000000000000) :
    Calls Tryz.prog 63 #[ptr t, I x] w fun e w' => ∃ (v : Value) (ws : List Int), e = .returned v ∧ ws.Pairwise (· < ·) ∧ (∀ y, y ∈ ws ↔ Wy m x pm y) ∧ w'.ownsRow w.heap.size 3 1 v ws.length (ws.map fun z => I z) ∧ G w w' ∧ ws.length ≤ 2 * L.length := by
  have hpi := h.iv.lv x pm hpm
  obtain ⟨p, hp, rfl⟩ := h.ab.of hpm
  have hmem : (x, p.goal) ∈ m.qs p.at_ := (h.iv.qm p.at_ x p.goal).2 ⟨p.m, hpm, rfl, hg, rfl⟩
  obtain ⟨i, hi⟩ := List.mem_iff_getElem?.1 hmem
  obtain ⟨q, hq⟩ : ∃ q, s.pl p.at_ = some q := by
    cases e : s.pl p.at_ with
    | some q => exact ⟨q, rfl⟩
    | none =>
      have := (h.ab.no _ e).2
      rw [this] at hmem; cases hmem
  obtain ⟨y1, y2, -⟩ := h.ab.yes _ q hq
  have hno : ∀ j, j < i → (m.qs p.at_)[j]? ≠ some (x, p.goal) := fun j hj e => by have := nodup_at (h.iv.qn p.at_) hi e; omega
  have hql : (m.qs p.at_).length ≤ L.length := by
    have := nodup_sub_le0 ((m.qs p.at_).map Prod.fst) L (h.iv.qn p.at_) (fun a ha => by
      obtain ⟨⟨u, g⟩, hu, rfl⟩ := List.mem_map.1 ha
      obtain ⟨b, hb, -⟩ := (h.iv.qm p.at_ u g).1 hu
      exact (h.iv.lv u b hb).xl)
    rw [List.length_map] at this
    exact this
  have hmx : (4100000000000 : Nat) ≤ maxLen := of_decide_eq_true (by kernel_rfl)
  refine (wf_mem t s x p q i L w h.tt h.tb hpi.xr hp (hpi.g1 hg).2.2.1 hq (by rw [y2]; exact hi) (fun j hj => by rw [y2]; exact hno j hj) (fun y hy => ?_) (fun y hy => ?_) (by rw [y2]; omega) (by rw [y2]; omega)).mono ?_
  · rw [y1] at hy
    obtain ⟨b, hb, -⟩ := hl_live hy
    exact (h.iv.lv y b hb).xl
  · rw [y1] at hy
    obtain ⟨b, hb, -⟩ := hl_live hy
    exact (h.iv.lv y b hb).xr
  · rintro e w' ⟨v, ws, rfl, a1, a2, a3, a4, a5⟩
    rw [y2] at a5
    refine ⟨v, ws, rfl, a1, fun y => ?_, a3, a4, by omega⟩
    rw [a2 y, y1, y2]
    constructor
    · exact fun hh => ⟨i, hi, hh⟩
    · rintro ⟨j, hj, hh⟩
      have : j = i := nodup_at (h.iv.qn p.at_) hj hi
      rw [this] at hh
      exact hh
end
open Go.RowKit

/-- A wait that is told. -/
def Wt (m : Ms) (a : Int × Int × Rs) : Prop := ∃ p, m.lv a.1 = some p ∧ p.goal ≠ 0 ∧ p.hurt = false ∧ Wy m a.1 p a.2.1 ∧ a.2.2 = p.at_
def wLt (a b : Int × Int × Rs) : Prop := a.1 < b.1 ∨ (a.1 = b.1 ∧ a.2.1 < b.2.1)
structure WtP (m : Ms) (ids : List Int) (wl : List (Int × Int × Rs)) : Prop where
  mem : ∀ a, a ∈ wl ↔ a.1 ∈ ids ∧ Wt m a
  ord : wl.Pairwise wLt
theorem WtP.nil (m : Ms) : WtP m [] [] := ⟨fun a => ⟨fun h => (by cases h), fun h => by cases h.1⟩, List.Pairwise.nil⟩
section
variable {m : Ms} {ids : List Int} {wl : List (Int × Int × Rs)} {n : Nat} {x : Int} {p : Pm}
theorem take_one {ids : List Int} {n : Nat} {x : Int} (h : ids[n]? = some x) : ids.take (n + 1) = ids.take n ++ [x] := by rw [List.take_add_one, h]; rfl
theorem WtP.skip (h : WtP m (ids.take n) wl) (hx : ids[n]? = some x) (hp : m.lv x = some p) (hn : p.goal = 0 ∨ p.hurt = true) : WtP m (ids.take (n + 1)) wl := by
  refine ⟨fun a => ?_, h.ord⟩
  rw [h.mem a, take_one hx, List.mem_append, List.mem_singleton]
  constructor
  · exact fun hh => ⟨.inl hh.1, hh.2⟩
  · rintro ⟨h1 | h1, h2⟩
    · exact ⟨h1, h2⟩
    · obtain ⟨q, hq, k1, k2, -⟩ := h2
      rw [h1, hp] at hq
      cases hq
      rcases hn with hn | hn
      · exact absurd hn k1
      · rw [k2] at hn; cases hn
theorem WtP.add (h : WtP m (ids.take n) wl) (hids : ids.Pairwise (· < ·)) (hx : ids[n]? = some x) (hp : m.lv x = some p) (hg : p.goal ≠ 0) (hh : p.hurt = false) {ws : List Int} (hws : ws.Pairwise (· < ·)) (hwm : ∀ y, y ∈ ws ↔ Wy m x p y) : WtP m (ids.take (n + 1)) (wl ++ ws.map fun y => (x, y, p.at_)) := by
  refine ⟨fun a => ?_, ?_⟩
  · rw [List.mem_append, h.mem a, take_one hx, List.mem_append, List.mem_singleton]
    constructor
    · rintro (hh | hh)
      · exact ⟨.inl hh.1, hh.2⟩
      · obtain ⟨y, hy, rfl⟩ := List.mem_map.1 hh
        exact ⟨.inr rfl, p, hp, hg, by assumption, (hwm y).1 hy, rfl⟩
    · rintro ⟨h1 | h1, h2⟩
      · exact .inl ⟨h1, h2⟩
      · obtain ⟨q, hq, -, -, k3, k4⟩ := h2
        rw [h1] at hq k3
        rw [hp] at hq
        cases hq
        refine .inr (List.mem_map.2 ⟨a.2.1, (hwm _).2 k3, ?_⟩)
        rw [← k4, ← h1]
  · rw [List.pairwise_append]
    refine ⟨h.ord, ?_, fun a ha b hb => ?_⟩
    · rw [List.pairwise_map]
      exact hws.imp (fun hlt => .inr ⟨rfl, hlt⟩)
    · obtain ⟨y, hy, rfl⟩ := List.mem_map.1 hb
      have h1 := ((h.mem a).1 ha).1
      obtain ⟨j, hj⟩ := List.mem_iff_getElem?.1 h1
      rw [List.getElem?_take] at hj
      by_cases hjn : j < n
      · rw [if_pos hjn] at hj
        obtain ⟨l1, e1⟩ := List.getElem?_eq_some_iff.1 hj
        obtain ⟨l2, e2⟩ := List.getElem?_eq_some_iff.1 hx
        have := List.pairwise_iff_getElem.1 hids j n l1 l2 hjn
        rw [e1, e2] at this
        exact .inl this
      · rw [if_neg hjn] at hj; cases hj
end
/-- What Waits answers. -/
def WaP (w : World) (m : Ms) (ids : List Int) (e : Ending) (w' : World) : Prop := ∃ (v : Value) (wl : List (Int × Int × Rs)), e = .returned v ∧ WtP m ids wl ∧ w'.ownsRow w.heap.size 84 5 v wl.length (gc wl) ∧ Go.Proofs.YtkbgifhhnnfgoaaGreatDoor.G w w' ∧ wl.length < 2000000000000
set_option maxRecDepth 100000 in
set_option maxHeartbeats 1000000 in
theorem waits_t {w : World} {t : Nat} {s : Gs} {m : Ms} {L : List Int} {LR : List Rs} {live : List (Int × Int)} (h : GT w t s m L LR) (hb : Bk m live) (hl : live.length < 2000000000000) (hL : L.length < 2000000000000) (hLL : live.length * L.length < 2000000000000) :
    Calls Tryz.prog 40 #[ptr t] w (WaP w m (srt (live.map fun a => a.1))) := by
  have KL := hide (live_t h hb hl)
  have hlen : (srt (live.map fun a => a.1)).length = live.length := by rw [srt_len, List.length_map]
  have hids := srt_lt hb.nd
  have hidm : ∀ x ∈ srt (live.map fun a => a.1), ∃ p, m.lv x = some p := fun x hx => by
    obtain ⟨⟨u, st⟩, hu, rfl⟩ := List.mem_map.1 ((srt_perm _).mem_iff.1 hx)
    obtain ⟨p, hp, -⟩ := (hb.mem u st).1 hu
    exact ⟨p, hp⟩
  have HT := hide h; have HL := hide hL
  rw [← hlen] at hl hLL KL
  clear h hb hL hlen
  change (srt (live.map Prod.fst)).Pairwise (· < ·) at hids
  generalize srt (live.map fun a => a.1) = ids at KL hl hLL hids hidm ⊢
  have HLN := hide hl; have HLL := hide hLL; have HID := hide hids; have HIM := hide hidm
  clear hl hLL hids hidm
  go_enter Tryz.func40, Tryz.ntmps40
  go_wp2_with (first | (go_at_call 26; refine Hid.out ?_) | fail)
  unfold Hid
  refine KL.out.mono ?_
  rintro e w1 ⟨vl, rfl, hrow, hg1⟩
  obtain ⟨la, lc, rfl⟩ := row_form hrow
  have HROW := hide hrow; have HG1 := hide hg1
  clear hrow hg1 KL
  go_wp2_with fail
  go_loopw [3, 12] (fun ov iv wr => ∃ (n : Nat) (wl : List (Int × Int × Rs)), n ≤ ids.length ∧ iv = I (n : Int) ∧ wr.ownsRow w1.heap.size 84 5 ov wl.length (gc wl) ∧ WtP m (ids.take n) wl ∧ wl.length ≤ n * L.length ∧ G w1 wr) (fun _ iv _ => ids.length - (RowKit.intOf iv).toNat)
  case atStart => exact ⟨0, [], Nat.zero_le _, rfl, ⟨rfl, .inl ⟨rfl, rfl⟩⟩, WtP.nil m, Nat.zero_le _, G.refl _⟩
  case round =>
    obtain ⟨n, wl, hn, rfl, hrw, hwt, hwl, hgw⟩ := hrel
    by_cases hlt : n < ids.length
    · obtain ⟨x, hx⟩ : ∃ a, ids[n]? = some a := ⟨_, List.getElem?_eq_getElem hlt⟩
      obtain ⟨p, hp⟩ := HIM.out x (List.mem_of_getElem? hx)
      obtain ⟨ga, hga, kx⟩ := int_at (own_G HROW.out hgw) hx
      subst hga
      have hT := (HT.out.G HG1.out).G hgw
      obtain ⟨pt, hpt, rfl⟩ := hT.ab.of hp
      have hxr := (hT.iv.lv x pt.m hp).xr
      have hc := hT.tt.tb.cell
      have hl1 := hT.tt.lm.look kyI Tryz.underlying58 (Tryz.zeroValue63 wr) (kyI_ok.2 hxr)
      rw [hpt] at hl1
      simp only [Option.map_some, Option.getD_some] at hl1
      have hpc := (hT.tt.pt x pt hpt).blk.cell
      simp only [Pt.cells] at hpc
      have KI := hide (isWounded_any pt wr (hT.tt.pt x pt hpt).blk (hT.tt.pt x pt hpt).wm (fun y hy => ((hT.iv.lv x pt.m hp).wd y hy).1))
      have hnI : (n : Int) < (ids.length : Int) := by omega
      have hwn : wrap64 ((n : Int) + 1) = (n : Int) + 1 := by have := HLN.out; unfold wrap64; omega
      have hsz : wl.length ≤ (n + 1) * L.length := Nat.le_trans hwl (Nat.mul_le_mul_right _ (Nat.le_succ n))
      have HWN := hide hwn; have HLT := hide hlt; have HX := hide hx; have HP := hide hp; have HPT := hide hpt; have HTW := hide hT; have HGW := hide hgw; have HRW := hide hrw; have HWT := hide hwt; have HWL := hide hwl; have HSZ := hide hsz
      clear hwn hlt hx hp hpt hT hgw hrw hwt hwl hn hxr hsz
      by_cases hg : pt.goal = 0
      · have HSK := hide (HWT.out.skip HX.out HP.out (.inl hg))
        have g1 : (pt.goal == 0) = true := by simp [hg]
        rw [hg] at hpc
        clear hg
        go_wp2
        exact ⟨⟨n + 1, wl, HLT.out, by rw [HWN.out]; exact rl1 n, HRW.out, HSK.out, HSZ.out, HGW.out⟩, by rw [HWN.out]; exact ms_end HLT.out⟩
      · have g1 : (pt.goal == 0) = false := by simp [hg]
        have g2 : decide (pt.goal = 0) = false := by simp [hg]
        have HGO := hide hg
        cases hh : pt.hurt with
        | true =>
          have HSK := hide (HWT.out.skip HX.out HP.out (.inr (by rw [Pt.m_hurt]; exact hh)))
          rw [hh] at KI
          clear hh
          go_wp2_with (first | (go_at_call 30; with_reducible refine KI.out.mono ?_; rintro e w' ⟨rfl, hw'⟩; have hw2 := hw'.symm; subst hw2; clear hw') | fail)
          exact ⟨⟨n + 1, wl, HLT.out, by rw [HWN.out]; exact rl1 n, HRW.out, HSK.out, HSZ.out, HGW.out⟩, by rw [HWN.out]; exact ms_end HLT.out⟩
        | false =>
          rw [hh] at KI
          have HHU : Hid (pt.m.hurt = false) := by rw [Hid, Pt.m_hurt]; exact hh
          have KF := hide (waitedFor_t HTW.out HP.out HGO.out HL.out)
          clear hh
          go_wp2_with (first | (go_at_call 30; with_reducible refine KI.out.mono ?_; rintro e w' ⟨rfl, hw'⟩; have hw2 := hw'.symm; subst hw2; clear hw') | (go_at_call 63; refine Hid.out ?_) | fail)
          unfold Hid
          refine KF.out.mono ?_
          rintro e w2 ⟨vw, ws, rfl, ws1, ws2, ws3, ws4, -⟩
          obtain ⟨ua, uc, rfl⟩ := row_form ws3
          have hwsL : ws.length ≤ L.length := nodup_sub_le0 ws L (ws1.imp (fun h e => by omega)) (fun y hy => by
            obtain ⟨i, hi, hw⟩ := (ws2 y).1 hy
            obtain ⟨-, b, hb⟩ := HTW.out.iv.way (fun j g' hj hj2 => by have := nodup_at (HTW.out.iv.qn _) hi hj2; omega) hw
            exact (HTW.out.iv.lv y b hb).xl)
          have HAD := hide (HWT.out.add HID.out HX.out HP.out HGO.out HHU.out ws1 ws2)
          have hbnd : wl.length + ws.length ≤ (n + 1) * L.length := by rw [Nat.succ_mul]; have := HWL.out; omega
          have hbnd2 : (n + 1) * L.length ≤ ids.length * L.length := Nat.mul_le_mul_right _ HLT.out
          have HBN := hide hbnd
          have HBT : Hid (wl.length + ws.length < 2000000000000) := by show _ < _; have := HLL.out; omega
          have HWR : Hid (w2.ownsRow w1.heap.size 3 1 (.slice ua ws.length uc) ws.length (ws.map fun z => I z)) := own_lo ws3 HGW.out.size
          have HG2 : Hid (G w1 w2) := HGW.out.trans ws4
          have HR2 := hide (own_G HRW.out ws4)
          clear ws1 ws2 ws3 ws4 KF KI hwsL hbnd hbnd2 hc hl1 hpc kx HWT HWL HSZ HRW HGW HTW HLL
          go_wp2_with fail
          go_loopw [3, 35] (fun ov jv wi => ∃ j : Nat, j ≤ ws.length ∧ jv = I (j : Int) ∧ wi.ownsRow w1.heap.size 84 5 ov (wl ++ (ws.take j).map fun y => (x, y, pt.at_)).length (gc (wl ++ (ws.take j).map fun y => (x, y, pt.at_))) ∧ wi.ownsRow w1.heap.size 3 1 (.slice ua ws.length uc) ws.length (ws.map fun z => I z) ∧ G w1 wi) (fun _ jv _ => ws.length - (RowKit.intOf jv).toNat)
          case atStart => exact ⟨0, Nat.zero_le _, rfl, by simpa using HR2.out, HWR.out, HG2.out⟩
          case round =>
            obtain ⟨j, hj, rfl, hro, hrs, hgj⟩ := hrel
            by_cases hjl : j < ws.length
            · obtain ⟨y, hy⟩ : ∃ a, ws[j]? = some a := ⟨_, List.getElem?_eq_getElem hjl⟩
              obtain ⟨gb, hgb, ky⟩ := int_at hrs hy
              subst hgb
              have hjI : (j : Int) < (ws.length : Int) := by omega
              have hwj : wrap64 ((j : Int) + 1) = (j : Int) + 1 := by have := HBT.out; unfold wrap64; omega
              have hpc := (((HT.out.G HG1.out).G hgj).tt.pt x pt HPT.out).blk.cell
              simp only [Pt.cells] at hpc
              have hlj : (wl ++ (ws.take j).map fun y => (x, y, pt.at_)).length < 2199023255552 := by
                rw [List.length_append, List.length_map, List.length_take]
                have := HBT.out
                omega
              obtain ⟨v9, w9, r1, r2, r3⟩ := app_gol wr w1.heap.size u3 _ (x, y, pt.at_) hro hlj hgj.size
              have hsn : (wl ++ (ws.take j).map fun y => (x, y, pt.at_)) ++ [(x, y, pt.at_)] = wl ++ (ws.take (j + 1)).map fun y => (x, y, pt.at_) := by
                rw [take_one hy, List.map_append, List.append_assoc]; rfl
              rw [hsn] at r2
              have HR1 := hide r1
              have HR9 := hide r2
              have HG9 : Hid (G w1 w9) := grown_G (hgj.alloc _) r3 (fun k hk => (World.ownsRow.lt hro k hk).1)
              have HS9 : Hid (w9.ownsRow w1.heap.size 3 1 (.slice (some ⟨gb, 0, none⟩) ws.length uc) ws.length (ws.map fun z => I z)) := own_chg (F := fun k => u3.ownBlock = some k) (own_G hrs ((G.refl wr).alloc _)) ⟨r3.os, r3.tape, r3.output, r3.size, fun k hk hn => r3.block k hk (fun e => hn e.symm)⟩ (fun k hk e => own_apart hrs hro (by decide) k hk e)
              have HWJ := hide hwj; have HJL := hide hjl
              clear r1 r2 r3 hsn hlj hro hrs hgj hwj hjl hj hy
              go_wp2_with (first | (at_builtin; refine wpList_append_run rfl _ _ 81 rfl _ _ rfl rfl HR1.out ?_) | fail)
              exact ⟨⟨j + 1, HJL.out, by rw [HWJ.out]; exact rl1 j, HR9.out, HS9.out, HG9.out⟩, by rw [HWJ.out]; exact ms_end HJL.out⟩
            · have hne : j = ws.length := by omega
              subst hne
              have hjI : ¬ ((ws.length : Int) < (ws.length : Int)) := by omega
              rw [List.take_length] at hro
              have HRO := hide hro; have HGJ := hide hgj
              clear hj hjl hro hrs hgj
              go_wp2
              exact ⟨⟨n + 1, _, HLT.out, by rw [HWN.out]; exact rl1 n, HRO.out, HAD.out, by rw [List.length_append, List.length_map]; exact HBN.out, HGJ.out⟩, by rw [HWN.out]; exact ms_end HLT.out⟩
    · have hne : n = ids.length := by omega
      subst hne
      have hnI : ¬ ((ids.length : Int) < (ids.length : Int)) := by omega
      rw [List.take_length] at hwt
      have HR : Hid (wr.ownsRow w.heap.size 84 5 u3 wl.length (gc wl)) := own_lo hrw HG1.out.size
      have HF : Hid (WtP m ids wl ∧ G w wr ∧ wl.length < 2000000000000) := ⟨hwt, HG1.out.trans hgw, by have := HLL.out; omega⟩
      clear hn hlt hrw hwt hwl hgw
      go_wp2
      go_ret
      exact ⟨_, wl, rfl, HF.out.1, HR.out, HF.out.2.1, HF.out.2.2⟩
end Go.Proofs.YtkbgifhhnnfgoaaGreatDoor
