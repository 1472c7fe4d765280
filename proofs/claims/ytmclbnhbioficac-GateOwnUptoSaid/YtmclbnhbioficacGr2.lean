/- The document's gate in memory; New, Submit, End, Swept, Picked. -/
import Derived.Test.YtmclbnhbioficacGr1
namespace Go.Proofs.Ytmclbnhbioficac
open Go.RowKit

/-- The queue, as the document has it. -/
def GM.qO (m : GM) : List It := m.q.map fun x => (x, 0)
theorem qO_ids (m : GM) : m.qO.map (·.1.1) = m.qids := by simp [GM.qO, GM.qids]
theorem qO_len (m : GM) : m.qO.length = m.q.length := by simp [GM.qO]
def rcs (m : GM) (vq vi : Value) : List Value := [I m.mo, I m.un, I m.lg, I m.ck, I m.sw, I m.sp, vq, vi]
structure RGx (w : World) (b : Nat) (m : GM) (K : Nat → Prop) (vq vi : Value) : Prop where
  blk : Blk w b 61 (rcs m vq vi)
  q : SwO w vq m.qO
  i : SwO w vi m.ins
  ap : ∀ k, vq.ownBlock = some k → vi.ownBlock ≠ some k
  kb : K b
  kq : ∀ k, vq.ownBlock = some k → K k
  ki : ∀ k, vi.ownBlock = some k → K k
  lt : ∀ k, K k → k < w.heap.size
def RG (w : World) (b : Nat) (m : GM) (K : Nat → Prop) : Prop := ∃ vq vi, RGx w b m K vq vi
theorem RGx.keep {w w' : World} {b : Nat} {m : GM} {K : Nat → Prop} {vq vi : Value} (h : RGx w b m K vq vi) (hs : w.heap.size ≤ w'.heap.size) (hb : ∀ k, K k → w'.heap[k]? = w.heap[k]?) : RGx w' b m K vq vi :=
  ⟨h.blk.keep (hb b h.kb), h.q.keep (fun k e => hb k (h.kq k e)), h.i.keep (fun k e => hb k (h.ki k e)), h.ap, h.kb, h.kq, h.ki, fun k e => Nat.lt_of_lt_of_le (h.lt k e) hs⟩
theorem RGx.G {w w' : World} {b : Nat} {m : GM} {K : Nat → Prop} {vq vi : Value} (h : RGx w b m K vq vi) (g : Go.Proofs.Ytmclbnhbioficac.G w w') : RGx w' b m K vq vi := h.keep g.size (fun k hk => g.block k (h.lt k hk))
theorem RG.G {w w' : World} {b : Nat} {m : GM} {K : Nat → Prop} (h : RG w b m K) (g : Go.Proofs.Ytmclbnhbioficac.G w w') : RG w' b m K := by
  obtain ⟨vq, vi, h⟩ := h
  exact ⟨vq, vi, h.G g⟩
theorem RG.off {w w' : World} {b : Nat} {m : GM} {K F : Nat → Prop} (h : RG w b m K) (c : Chg F w w') (hF : ∀ k, K k → ¬ F k) : RG w' b m K := by
  obtain ⟨vq, vi, h⟩ := h
  exact ⟨vq, vi, h.keep c.size (fun k hk => c.block k (h.lt k hk) (hF k hk))⟩
theorem RG.lt {w : World} {b : Nat} {m : GM} {K : Nat → Prop} (h : RG w b m K) : ∀ k, K k → k < w.heap.size := by
  obtain ⟨vq, vi, h⟩ := h
  exact h.lt
theorem RGx.cells {w : World} {b : Nat} {m : GM} {K : Nat → Prop} {vq vi : Value} (h : RGx w b m K vq vi) : ∀ o, w.cell? ⟨b, o, none⟩ = ([I m.mo, I m.un, I m.lg, I m.ck, I m.sw, I m.sp, vq, vi] : List Value)[o]? := h.blk.cell
/-- A field is stored that is no list. -/
theorem RGx.field {w : World} {b : Nat} {m m' : GM} {K : Nat → Prop} {vq vi : Value} (h : RGx w b m K vq vi) (o : Nat) (u : Value) (e : (rcs m vq vi).set o u = rcs m' vq vi) (hq : m'.q = m.q) (hi : m'.ins = m.ins) : RGx (w.setCell ⟨b, o, none⟩ u) b m' K vq vi :=
  ⟨by rw [← e]; exact h.blk.set o u, by unfold GM.qO; rw [hq]; exact h.q.off (h.q.ne h.blk (by decide)), by rw [hi]; exact h.i.off (h.i.ne h.blk (by decide)), h.ap, h.kb, h.kq, h.ki, fun k hk => by simpa using h.lt k hk⟩
theorem RGx.ste {w : World} {b : Nat} {m : GM} {K : Nat → Prop} {vq vi : Value} (h : RGx w b m K vq vi) (o : Nat) (u : Value) : Ste K w K (w.setCell ⟨b, o, none⟩ u) := ⟨chg_setCell _ _ (.inl h.kb), fun _ q => .inl q⟩
set_option maxRecDepth 100000 in
set_option maxHeartbeats 1000000 in
theorem rnew_no (mo un : Int) (W : World) (h : ¬ (1 ≤ mo ∧ mo ≤ 16 ∧ 1 ≤ un ∧ un ≤ 64)) : Calls Try.prog 5 #[I mo, I un] W fun e W' => e = .returned (.tuple #[.pointer none, I 150]) ∧ W' = W := by
  by_cases h1 : mo < 1
  · go_enter Try.func5, Try.ntmps5
    go_wp2_with fail
    go_ret2
    exact ⟨rfl, rfl⟩
  by_cases h2 : mo > 16
  · go_enter Try.func5, Try.ntmps5
    go_wp2_with fail
    go_ret2
    exact ⟨rfl, rfl⟩
  by_cases h3 : un < 1
  · go_enter Try.func5, Try.ntmps5
    go_wp2_with fail
    go_ret2
    exact ⟨rfl, rfl⟩
  have h4 : un > 64 := by omega
  go_enter Try.func5, Try.ntmps5
  go_wp2_with fail
  go_ret2
  exact ⟨rfl, rfl⟩
def RNewP (mo un : Int) (W : World) (e : Ending) (W' : World) : Prop := ∃ (b : Nat) (K : Nat → Prop), e = .returned (.tuple #[ptr b, I 0]) ∧ RG W' b (new0 mo un) K ∧ G W W' ∧ (∀ k, K k → W.heap.size ≤ k)
set_option maxRecDepth 100000 in
set_option maxHeartbeats 1000000 in
theorem rnew_ok (mo un : Int) (W : World) (m1 : 1 ≤ mo) (m2 : mo ≤ 16) (u1 : 1 ≤ un) (u2 : un ≤ 64) : Calls Try.prog 5 #[I mo, I un] W fun e W' => RNewP mo un W e W' := by
  have h1 : ¬ (mo < 1) := by omega
  have h2 : ¬ (mo > 16) := by omega
  have h3 : ¬ (un < 1) := by omega
  have h4 : ¬ (un > 64) := by omega
  clear m1 m2 u1 u2
  go_enter Try.func5, Try.ntmps5
  go_wp2_with fail
  go_ret2
  have hA := (G.refl W).alloc (.cells #[I mo, I un, I 0, I 0, I 0, I 0, .slice none 0 0, .slice none 0 0] 61)
  have hX := Blk.new W [I mo, I un, I 0, I 0, I 0, I 0, .slice none 0 0, .slice none 0 0] 61
  refine ⟨W.heap.size, fun k => k = W.heap.size, rfl, ⟨.slice none 0 0, .slice none 0 0, hX, Sw.nil _ _ _, Sw.nil _ _ _, fun k e => by simp [Value.ownBlock] at e, rfl, fun k e => by simp [Value.ownBlock] at e, fun k e => by simp [Value.ownBlock] at e, fun k e => by have e2 : k = W.heap.size := e; simp; omega⟩, hA, fun k e => by have e2 : k = W.heap.size := e; omega⟩
set_option maxRecDepth 100000 in
set_option maxHeartbeats 1000000 in
theorem rswept_any (b : Nat) (m : GM) (K : Nat → Prop) (W : World) (h : RG W b m K) :
    Calls Try.prog 24 #[ptr b] W fun e W' => e = .returned (.tuple #[]) ∧ ∃ K', RG W' b { m with lg := 0 } K' ∧ Ste K W K' W' := by
  obtain ⟨vq, vi, h⟩ := h
  have hc := h.cells
  have hz := h.blk.frozen
  have H2 : Hid (RG (W.setCell ⟨b, 2, none⟩ (I 0)) b { m with lg := 0 } K ∧ Ste K W K (W.setCell ⟨b, 2, none⟩ (I 0))) := ⟨⟨vq, vi, h.field 2 _ rfl rfl rfl⟩, h.ste 2 _⟩
  clear h
  go_enter Try.func24, Try.ntmps24
  go_wp2_with fail
  go_end0
  exact ⟨rfl, K, H2.out⟩
/-- What at answers. -/
def atI (l : List It) (id : Int) : Int := if id ∈ l.map (·.1.1) then (((l.map (·.1.1)).idxOf id : Nat) : Int) else -1
theorem at_any (l : List It) (v : Value) (id : Int) (W : World) (h : SwO W v l) (hn : (l.map (·.1.1)).Nodup) (hm : l.length ≤ 1000) :
    Calls Try.prog 37 #[v, I id] W fun e W' => e = .returned (I (atI l id)) ∧ W' = W := by
  unfold atI
  by_cases hk : id ∈ l.map (·.1.1)
  · rw [if_pos hk]
    exact at_yes l v id _ W h (idx_get hk) (nd_first hn (idx_get hk)) hm
  · rw [if_neg hk]
    exact at_no l v id W h hk hm
theorem atI_neg {l : List It} {id : Int} : atI l id < 0 ↔ id ∉ l.map (·.1.1) := by
  unfold atI
  split
  · rename_i h
    simp only [h, not_true_eq_false, iff_false]
    omega
  · rename_i h
    simp only [h, not_false_eq_true, iff_true]
    decide
set_option maxRecDepth 100000 in
set_option maxHeartbeats 1000000 in
theorem rsub_arg (b : Nat) (W : World) (id : Int) (h : id < 1 ∨ id > 1073741824) :
    Calls Try.prog 20 #[ptr b, I id] W fun e W' => e = .returned (.tuple #[I 0, I 1]) ∧ W' = W := by
  by_cases h1 : id < 1
  · go_enter Try.func20, Try.ntmps20
    go_wp2_with fail
    go_ret2
    exact ⟨rfl, rfl⟩
  · have h2 : id > 1073741824 := by omega
    go_enter Try.func20, Try.ntmps20
    go_wp2_with fail
    go_ret2
    exact ⟨rfl, rfl⟩
set_option maxRecDepth 100000 in
set_option maxHeartbeats 1000000 in
theorem rsub_known (b : Nat) (m : GM) (K : Nat → Prop) (W : World) (h : RG W b m K) (hv : Iv m) (id : Int) (hi : 1 ≤ id ∧ id ≤ 1073741824) (hk : id ∈ m.ids ∨ id ∈ m.qids) :
    Calls Try.prog 20 #[ptr b, I id] W fun e W' => e = .returned (.tuple #[I 0, I 151]) ∧ W' = W := by
  obtain ⟨vq, vi, h⟩ := h
  have hc := h.cells
  have hcr := hv.crowd
  have hql := qO_len m
  have nq : (m.qO.map (·.1.1)).Nodup := by rw [qO_ids]; exact (List.nodup_append.1 hv.nd).2.1
  have ni : (m.ins.map (·.1.1)).Nodup := (List.nodup_append.1 hv.nd).1
  have KQ := hide (at_any m.qO vq id W h.q nq (by omega))
  have KI := hide (at_any m.ins vi id W h.i ni (by omega))
  have b1 : ¬ (id < 1) := by omega
  have b2 : ¬ (id > 1073741824) := by omega
  have hq1 : id ∈ m.qids → 0 ≤ atI m.qO id := fun q => by
    have : ¬ (atI m.qO id < 0) := fun e => atI_neg.1 e (by rw [qO_ids]; exact q)
    omega
  have hi1 : id ∈ m.ids → 0 ≤ atI m.ins id := fun q => by
    have : ¬ (atI m.ins id < 0) := fun e => atI_neg.1 e q
    omega
  generalize atI m.qO id = nq' at KQ hq1
  generalize atI m.ins id = ni' at KI hi1
  by_cases c1 : 0 ≤ nq'
  · clear h hv hcr hql nq ni hi hk hq1 hi1
    go_enter Try.func20, Try.ntmps20
    go_wp2_with (first | (go_at_call 37; with_reducible refine KQ.out.mono ?_; rintro e w9 ⟨rfl, e9⟩; rw [e9]; clear e9 w9) | (go_at_call 37; with_reducible refine KI.out.mono ?_; rintro e w9 ⟨rfl, e9⟩; rw [e9]; clear e9 w9) | fail)
    go_ret2
    exact ⟨rfl, rfl⟩
  · have c2 : 0 ≤ ni' := by
      rcases hk with q | q
      · exact hi1 q
      · exact absurd (hq1 q) c1
    clear h hv hcr hql nq ni hi hk hq1 hi1
    go_enter Try.func20, Try.ntmps20
    go_wp2_with (first | (go_at_call 37; with_reducible refine KQ.out.mono ?_; rintro e w9 ⟨rfl, e9⟩; rw [e9]; clear e9 w9) | (go_at_call 37; with_reducible refine KI.out.mono ?_; rintro e w9 ⟨rfl, e9⟩; rw [e9]; clear e9 w9) | fail)
    go_ret2
    exact ⟨rfl, rfl⟩
set_option maxRecDepth 100000 in
set_option maxHeartbeats 1000000 in
theorem rsub_crowd (b : Nat) (m : GM) (K : Nat → Prop) (W : World) (h : RG W b m K) (hv : Iv m) (id : Int) (hi : 1 ≤ id ∧ id ≤ 1073741824) (hk : id ∉ m.ids ∧ id ∉ m.qids) (hfull : 64 ≤ m.q.length + m.ins.length) :
    Calls Try.prog 20 #[ptr b, I id] W fun e W' => e = .returned (.tuple #[I 0, I 153]) ∧ G W W' := by
  obtain ⟨vq, vi, h⟩ := h
  have hc := h.cells
  have hcr := hv.crowd
  have hql := qO_len m
  have nq : (m.qO.map (·.1.1)).Nodup := by rw [qO_ids]; exact (List.nodup_append.1 hv.nd).2.1
  have ni : (m.ins.map (·.1.1)).Nodup := (List.nodup_append.1 hv.nd).1
  have KQ := hide (at_any m.qO vq id W h.q nq (by omega))
  have KI := hide (at_any m.ins vi id W h.i ni (by omega))
  have c1 : ¬ (0 ≤ atI m.qO id) := by
    have := atI_neg.2 (show id ∉ m.qO.map (·.1.1) by rw [qO_ids]; exact hk.2)
    omega
  have c2 : ¬ (0 ≤ atI m.ins id) := by
    have := atI_neg.2 (show id ∉ m.ins.map (·.1.1) from hk.1)
    omega
  generalize atI m.qO id = nq' at KQ c1
  generalize atI m.ins id = ni' at KI c2
  have b1 : ¬ (id < 1) := by omega
  have b2 : ¬ (id > 1073741824) := by omega
  obtain ⟨qa, qc, eq⟩ := h.q.form
  obtain ⟨ia, ic, ei⟩ := h.i.form
  rw [hql] at eq
  have hw : wrap64 ((m.q.length : Int) + (m.ins.length : Int)) = (m.q.length : Int) + (m.ins.length : Int) := by unfold wrap64; omega
  have hf : (64 : Int) ≤ (m.q.length : Int) + (m.ins.length : Int) := by omega
  rw [eq, ei] at hc
  rw [eq] at KQ
  rw [ei] at KI
  clear h hv hcr hql nq ni hi hk hfull eq ei
  go_enter Try.func20, Try.ntmps20
  go_wp2_with (first | (go_at_call 37; with_reducible refine KQ.out.mono ?_; rintro e w9 ⟨rfl, e9⟩; rw [e9]; clear e9 w9) | (go_at_call 37; with_reducible refine KI.out.mono ?_; rintro e w9 ⟨rfl, e9⟩; rw [e9]; clear e9 w9) | fail)
  go_quiet (fail)
  go_wp2_with fail
  go_ret2
  exact ⟨rfl, (G.refl W).drewN _⟩
set_option maxRecDepth 100000 in
set_option maxHeartbeats 1000000 in
theorem rsub_ok (b : Nat) (m : GM) (K : Nat → Prop) (W : World) (h : RG W b m K) (hv : Iv m) (id : Int) (hi : 1 ≤ id ∧ id ≤ 1073741824) (hk : id ∉ m.ids ∧ id ∉ m.qids) (hroom : m.q.length + m.ins.length < 64) (hsp : m.sp < 4611686018427387904) :
    Calls Try.prog 20 #[ptr b, I id] W fun e W' => e = .returned (.tuple #[I (m.sp + 1), I 0]) ∧ ∃ K', RG W' b (m.sub id) K' ∧ Ste K W K' W' := by
  obtain ⟨vq, vi, h⟩ := h
  have hc := h.cells
  have hcr := hv.crowd
  have hql := qO_len m
  have nq : (m.qO.map (·.1.1)).Nodup := by rw [qO_ids]; exact (List.nodup_append.1 hv.nd).2.1
  have ni : (m.ins.map (·.1.1)).Nodup := (List.nodup_append.1 hv.nd).1
  have KQ := hide (at_any m.qO vq id W h.q nq (by omega))
  have KI := hide (at_any m.ins vi id W h.i ni (by omega))
  have c1 : ¬ (0 ≤ atI m.qO id) := by
    have := atI_neg.2 (show id ∉ m.qO.map (·.1.1) by rw [qO_ids]; exact hk.2)
    omega
  have c2 : ¬ (0 ≤ atI m.ins id) := by
    have := atI_neg.2 (show id ∉ m.ins.map (·.1.1) from hk.1)
    omega
  generalize atI m.qO id = nq' at KQ c1
  generalize atI m.ins id = ni' at KI c2
  have b1 : ¬ (id < 1) := by omega
  have b2 : ¬ (id > 1073741824) := by omega
  obtain ⟨qa, qc, eq⟩ := h.q.form
  obtain ⟨ia, ic, ei⟩ := h.i.form
  rw [hql] at eq
  have hw : wrap64 ((m.q.length : Int) + (m.ins.length : Int)) = (m.q.length : Int) + (m.ins.length : Int) := by unfold wrap64; omega
  have hf : ¬ ((64 : Int) ≤ (m.q.length : Int) + (m.ins.length : Int)) := by omega
  have hws : wrap64 (m.sp + 1) = m.sp + 1 := by have := hv.sp0; unfold wrap64; omega
  have HN1 : Hid ((GM.qO { m with sp := m.sp + 1 }).length + 1 ≤ maxLen) := Nat.le_trans (show (GM.qO { m with sp := m.sp + 1 }).length + 1 ≤ 1000 by rw [qO_len]; show m.q.length + 1 ≤ 1000; omega) (of_decide_eq_true (by kernel_rfl))
  have HN2 : Hid (((GM.qO { m with sp := m.sp + 1 }).length + 1) * 24 ≤ 140737488355328) := by show _ ≤ _; rw [qO_len]; show (m.q.length + 1) * 24 ≤ _; omega
  have HH : Hid (∀ n, RGx (W.drewN n) b m K vq vi ∧ Ste K W K (W.drewN n)) := fun n => ⟨h.G ((G.refl _).drewN n), Ste.G ((G.refl _).drewN n)⟩
  rw [eq, ei] at hc
  rw [eq] at KQ
  rw [ei] at KI
  have HEQ := hide eq
  have HEI := hide ei
  clear h hv hcr hql nq ni hi hk hroom eq ei
  go_enter Try.func20, Try.ntmps20
  go_wp2_with (first | (go_at_call 37; with_reducible refine KQ.out.mono ?_; rintro e w9 ⟨rfl, e9⟩; rw [e9]; clear e9 w9) | (go_at_call 37; with_reducible refine KI.out.mono ?_; rintro e w9 ⟨rfl, e9⟩; rw [e9]; clear e9 w9) | fail)
  go_quiet (fail)
  generalize hw3 : World.drewN W _ = w3
  have H3 : Hid (RGx w3 b m K vq vi ∧ Ste K W K w3) := by show _ ∧ _; rw [← hw3]; exact HH.out _
  clear hw3 HH hc KQ KI
  have hc3 := H3.out.1.cells
  have hz3 := H3.out.1.blk.frozen
  go_wp2_with fail
  clear hc3 hz3
  have HP4 := hide (H3.out.1.field (m' := { m with sp := m.sp + 1 }) 5 (I (m.sp + 1)) rfl rfl rfl)
  have HC4 := hide (H3.out.2.trans (H3.out.1.ste 5 (I (m.sp + 1))))
  clear H3
  generalize w3.setCell ⟨b, 5, none⟩ (I (m.sp + 1)) = w4 at HP4 HC4 ⊢
  refine wp_region_noPanic ?_
  refine wp_region_L (S := (fun V => (∀ j, V.cell? ⟨b, j, none⟩ = ([I m.mo, I m.un, I m.lg, I m.ck, I m.sw, I (m.sp + 1), vq, vi] : List Value)[j]?))) 15 (by kernel_rfl) ((HP4.out.G (G.drew (G.refl _))).cells) (fun hHeld => ?_)
  refine wpAnyL_take (i := 0) (v := ?_) rfl (by kernel_rfl) (by kernel_rfl) (by kernel_rfl) (by kernel_rfl) (fun _ _ _ h => h) (Or.inl ⟨by rfl, ?_⟩) hHeld ?_
  rotate_left 1
  · (intro w hSw; (try dsimp only at hSw); go_simp; try with_reducible rfl)
  try simp only [Act.put, List.getElem_toArray, List.getElem_cons_zero, List.setIfInBounds_toArray, List.set_cons_zero, List.set_cons_succ]
  refine wpAnyL_take (i := 1) (v := ?_) rfl (by kernel_rfl) (by kernel_rfl) (by kernel_rfl) (by kernel_rfl) (fun _ _ _ h => h) (Or.inl ⟨by rfl, ?_⟩) hHeld ?_
  rotate_left 1
  · (intro w hSw; (try dsimp only at hSw); go_simp; try with_reducible rfl)
  try simp only [Act.put, List.getElem_toArray, List.getElem_cons_zero, List.getElem_cons_succ, List.setIfInBounds_toArray, List.set_cons_zero, List.set_cons_succ]
  refine wpAnyL_take (i := 2) (v := ?_) rfl (by kernel_rfl) (by kernel_rfl) (by kernel_rfl) (by kernel_rfl) (fun _ _ _ h => h) (Or.inl ⟨by rfl, ?_⟩) hHeld ?_
  rotate_left 1
  · (intro w hSw; (try dsimp only at hSw); go_simp; try with_reducible rfl)
  try simp only [Act.put, List.getElem_toArray, List.getElem_cons_zero, List.getElem_cons_succ, List.setIfInBounds_toArray, List.set_cons_zero, List.set_cons_succ]
  refine wpAnyL_take (i := 3) (v := ?_) rfl (by kernel_rfl) (by kernel_rfl) (by kernel_rfl) (by kernel_rfl) (fun _ _ _ h => h) (Or.inl ⟨by rfl, ?_⟩) hHeld ?_
  rotate_left 1
  · (intro w hSw; (try dsimp only at hSw); go_simp; try with_reducible rfl)
  try simp only [Act.put, List.getElem_toArray, List.getElem_cons_zero, List.getElem_cons_succ, List.setIfInBounds_toArray, List.set_cons_zero, List.set_cons_succ]
  refine wpAnyL_take (i := 4) (v := ?_) rfl (by kernel_rfl) (by kernel_rfl) (by kernel_rfl) (by kernel_rfl) (fun _ _ _ h => h) (Or.inl ⟨by rfl, ?_⟩) hHeld ?_
  rotate_left 1
  · (intro w hSw; have q1 := hSw; go_simp; try with_reducible rfl)
  try simp only [Act.put, List.getElem_toArray, List.getElem_cons_zero, List.getElem_cons_succ, List.setIfInBounds_toArray, List.set_cons_zero, List.set_cons_succ]
  refine wpAnyL_take (i := 5) (v := ?_) rfl (by kernel_rfl) (by kernel_rfl) (by kernel_rfl) (by kernel_rfl) (fun _ _ _ h => h) (Or.inl ⟨by rfl, ?_⟩) hHeld ?_
  rotate_left 1
  · (intro w hSw; (try dsimp only at hSw); go_simp; try with_reducible rfl)
  try simp only [Act.put, List.getElem_toArray, List.getElem_cons_zero, List.getElem_cons_succ, List.setIfInBounds_toArray, List.set_cons_zero, List.set_cons_succ]
  refine wpAnyL_take (i := 6) (v := ?_) rfl (by kernel_rfl) (by kernel_rfl) (by kernel_rfl) (by kernel_rfl) (fun _ _ _ h => h) (Or.inl ⟨by rfl, ?_⟩) hHeld ?_
  rotate_left 1
  · (intro w hSw; (try dsimp only at hSw); go_simp; try with_reducible rfl)
  try simp only [Act.put, List.getElem_toArray, List.getElem_cons_zero, List.getElem_cons_succ, List.setIfInBounds_toArray, List.set_cons_zero, List.set_cons_succ]
  refine wpAnyL_take (i := 7) (v := ?_) rfl (by kernel_rfl) (by kernel_rfl) (by kernel_rfl) (by kernel_rfl) (fun _ _ _ h => h) (Or.inl ⟨by rfl, ?_⟩) hHeld ?_
  rotate_left 1
  · (intro w hSw; (try dsimp only at hSw); go_simp; try with_reducible rfl)
  try simp only [Act.put, List.getElem_toArray, List.getElem_cons_zero, List.getElem_cons_succ, List.setIfInBounds_toArray, List.set_cons_zero, List.set_cons_succ]
  refine wpAnyL_take (i := 8) (v := ?_) rfl (by kernel_rfl) (by kernel_rfl) (by kernel_rfl) (by kernel_rfl) (fun _ _ _ h => h) (Or.inl ⟨by rfl, ?_⟩) hHeld ?_
  rotate_left 1
  · (intro w hSw; (try dsimp only at hSw); go_simp; try with_reducible rfl)
  try simp only [Act.put, List.getElem_toArray, List.getElem_cons_zero, List.getElem_cons_succ, List.setIfInBounds_toArray, List.set_cons_zero, List.set_cons_succ]
  refine wpAnyL_take (i := 9) (v := ?_) rfl (by kernel_rfl) (by kernel_rfl) (by kernel_rfl) (by kernel_rfl) (fun _ _ _ h => h) (Or.inl ⟨by rfl, ?_⟩) hHeld ?_
  rotate_left 1
  · (intro w hSw; have q1 := hSw; go_simp; try with_reducible rfl)
  try simp only [Act.put, List.getElem_toArray, List.getElem_cons_zero, List.getElem_cons_succ, List.setIfInBounds_toArray, List.set_cons_zero, List.set_cons_succ]
  refine wpAnyL_take (i := 10) (v := ?_) rfl (by kernel_rfl) (by kernel_rfl) (by kernel_rfl) (by kernel_rfl) (fun _ _ _ h => h) (Or.inl ⟨by rfl, ?_⟩) hHeld ?_
  rotate_left 1
  · (intro w hSw; (try dsimp only at hSw); go_simp; try with_reducible rfl)
  try simp only [Act.put, List.getElem_toArray, List.getElem_cons_zero, List.getElem_cons_succ, List.setIfInBounds_toArray, List.set_cons_zero, List.set_cons_succ]
  refine wpAnyL_one (i := 11) (by kernel_rfl) rfl (by kernel_rfl) (fun K hK => ?_)
  clear hHeld
  go_simp
  have HG6 : Hid (G w4 (w4.alloc (.cells #[I id, I (m.sp + 1), I 0] 65)).drew) := ((G.refl w4).alloc _).drew
  have HC6 : Hid (∀ j u, ([I id, I (m.sp + 1), I 0] : List Value)[j]? = some u → (w4.alloc (.cells #[I id, I (m.sp + 1), I 0] 65)).drew.cell? ((⟨w4.heap.size, 0, none⟩ : Addr).add j) = some u) := cell_new w4 [I id, I (m.sp + 1), I 0] 65
  generalize (w4.alloc (.cells #[I id, I (m.sp + 1), I 0] 65)).drew = w6 at HG6 HC6 ⊢
  refine hK.out _ _ ((HP4.out.G HG6.out).cells) (fun hHeld => ?_)
  clear hK K
  try simp only [Act.put, List.getElem_toArray, List.getElem_cons_zero, List.getElem_cons_succ, List.setIfInBounds_toArray, List.set_cons_zero, List.set_cons_succ]
  refine wpAnyL_one (i := 12) (by kernel_rfl) rfl (by kernel_rfl) (fun K hK => ?_)
  clear hHeld
  obtain ⟨i0, hi0, hz0, hz1, hz2⟩ := info_O
  obtain ⟨v7', w7, hrun, hs7, hap7⟩ := app_one (P := Try.prog) (ts := 59) i0 _ 24 Try.underlying59 hi0 hz0 hz1 hz2 rfl (by decide) (HP4.out.G HG6.out).q ⟨w4.heap.size, 0, none⟩ 1 ((id, (m.sp + 1)), 0) HC6.out HN1.out HN2.out
  have HAP := hide (Chg.app hap7)
  obtain ⟨a7, c7, e7⟩ := hs7.form
  generalize hn7 : (GM.qO { m with sp := m.sp + 1 } ++ [((id, (m.sp + 1)), 0)]).length = n7 at e7
  subst e7
  have HS7 := hide hs7
  clear hap7 hs7 hi0 hz0 hz1 hz2 hn7
  refine (if_pos rfl).mpr ?_
  refine wp_of_exec (exec_append _ _ 59 rfl vq (.slice (some ⟨w4.heap.size, 0, none⟩) 1 1) rfl rfl 59 rfl hrun) ?_
  clear hrun
  have HP7 : Hid (Blk w7 b 61 (rcs { m with sp := m.sp + 1 } vq vi)) := (HP4.out.G HG6.out).blk.chg HAP.out.1 (fun e => (HP4.out.G HG6.out).q.ne (HP4.out.G HG6.out).blk (by decide) e)
  refine hK.out _ _ (HP7.out.cell) (fun hHeld => ?_)
  clear hK K
  try simp only [Act.put, List.getElem_toArray, List.getElem_cons_zero, List.getElem_cons_succ, List.setIfInBounds_toArray, List.set_cons_zero, List.set_cons_succ]
  refine wpAnyL_take2 14 (i := 13) (v := ?_) rfl (by kernel_rfl) (by kernel_rfl) (by kernel_rfl) (by kernel_rfl) (fun _ _ _ h => h) (Or.inl ⟨by rfl, ?_⟩) hHeld ?_
  rotate_left 1
  · (intro w hSw; (try dsimp only at hSw); go_simp; try with_reducible rfl)
  try simp only [Act.put, List.getElem_toArray, List.getElem_cons_zero, List.getElem_cons_succ, List.setIfInBounds_toArray, List.set_cons_zero, List.set_cons_succ]
  refine wpAnyL_take (i := 14) (v := ?_) rfl (by kernel_rfl) (by kernel_rfl) (by kernel_rfl) (by kernel_rfl) (fun _ _ _ h => h) (Or.inl ⟨by rfl, ?_⟩) hHeld ?_
  rotate_left 1
  · (intro w hSw; (try dsimp only at hSw); go_simp; try with_reducible rfl)
  try simp only [Act.put, List.getElem_toArray, List.getElem_cons_zero, List.getElem_cons_succ, List.setIfInBounds_toArray, List.set_cons_zero, List.set_cons_succ]
  refine wpAnyL_last (by kernel_rfl) rfl (by kernel_rfl) (fun K hK => ?_)
  clear hHeld
  have hc7 : ∀ o, w7.cell? ⟨b, o, none⟩ = ([I m.mo, I m.un, I m.lg, I m.ck, I m.sw, I (m.sp + 1), vq, vi] : List Value)[o]? := HP7.out.cell
  have hz7 := HP7.out.frozen
  go_simp
  refine hK.out _ _ ?_
  clear hK K
  refine NoPanic.normal ?_
  have h6 := HP4.out.G HG6.out
  have hi7 : SwO w7 vi m.ins := h6.i.chg HAP.out.1 (fun k hk e => h6.ap k e hk)
  have H9 : Hid (RGx (w7.setCell ⟨b, 6, none⟩ (Value.slice a7 n7 c7)) b (m.sub id) (fun k => K k ∨ (Value.slice a7 n7 c7).ownBlock = some k) (Value.slice a7 n7 c7) vi ∧ Ste K W (fun k => K k ∨ (Value.slice a7 n7 c7).ownBlock = some k) (w7.setCell ⟨b, 6, none⟩ (Value.slice a7 n7 c7))) := by
    refine ⟨⟨HP7.out.set 6 (Value.slice a7 n7 c7), ?_, hi7.off (hi7.ne HP7.out (by decide)), fun k e q => ?_, .inl h6.kb, fun k e => .inr e, fun k e => .inl (h6.ki k e), fun k e => ?_⟩, ⟨?_, fun k e => ?_⟩⟩
    · have e1 : (m.sub id).qO = GM.qO { m with sp := m.sp + 1 } ++ [((id, (m.sp + 1)), 0)] := by simp [GM.qO, GM.sub]
      rw [e1]
      exact HS7.out.off (HS7.out.ne HP7.out (by decide))
    · rcases HAP.out.2 k e with a | a
      · exact h6.ap k a q
      · exact Nat.not_le.2 (h6.i.lt q) a
    · rcases e with e | e
      · have h1 := h6.lt k e
        have h2 := HAP.out.1.size
        simp; omega
      · have := HS7.out.lt e
        simpa using this
    · exact ((HC4.out.chg.trans HG6.out.chg).trans (HAP.out.1.mono (fun k e => h6.kq k e))).trans (chg_setCell _ _ (.inl h6.kb))
    · rcases e with e | e
      · exact .inl e
      · rcases HAP.out.2 k e with a | a
        · exact .inl (h6.kq k a)
        · exact .inr (Nat.le_trans (HC4.out.chg.trans HG6.out.chg (F := K)).size a)
  clear h6 hi7 HP7 HS7 HAP HC6 HG6 HP4 HC4 HN1 HN2
  generalize w7.setCell ⟨b, 6, none⟩ (Value.slice a7 n7 c7) = w8 at H9 ⊢
  have hc8 : ∀ o, w8.cell? ⟨b, o, none⟩ = ([I m.mo, I m.un, I m.lg, I m.ck, I m.sw, I (m.sp + 1), (Value.slice a7 n7 c7), vi] : List Value)[o]? := H9.out.1.blk.cell
  go_wp2_with fail
  go_ret2
  exact ⟨rfl, _, ⟨_, _, H9.out.1⟩, H9.out.2⟩
theorem rsubmit_any (b : Nat) (m : GM) (K : Nat → Prop) (W : World) (id : Int) (h : RG W b m K) (hv : Iv m) (hs : m.sp < 4611686018427387904) :
    Calls Try.prog 20 #[ptr b, I id] W fun e W' => e = .returned (.tuple #[I (m.subA id).1, I (m.subA id).2]) ∧ ∃ K', RG W' b (m.subM id) K' ∧ Ste K W K' W' := by
  unfold GM.subA GM.subM
  by_cases h1 : id < 1 ∨ id > 1073741824
  · rw [if_pos h1, if_pos h1]
    refine (rsub_arg b W id h1).mono fun e W' ⟨he, hw⟩ => ?_
    subst hw
    exact ⟨he, K, h, Ste.refl _ _⟩
  · rw [if_neg h1, if_neg h1]
    by_cases h2 : id ∈ m.ids ∨ id ∈ m.qids
    · rw [if_pos h2, if_pos h2]
      refine (rsub_known b m K W h hv id (by omega) h2).mono fun e W' ⟨he, hw⟩ => ?_
      subst hw
      exact ⟨he, K, h, Ste.refl _ _⟩
    · rw [if_neg h2, if_neg h2]
      by_cases h3 : 64 ≤ m.q.length + m.ins.length
      · rw [if_pos h3, if_pos h3]
        refine (rsub_crowd b m K W h hv id (by omega) ⟨fun q => h2 (.inl q), fun q => h2 (.inr q)⟩ h3).mono fun e W' ⟨he, hg⟩ => ?_
        exact ⟨he, K, h.G hg, Ste.G hg⟩
      · rw [if_neg h3, if_neg h3]
        exact rsub_ok b m K W h hv id (by omega) ⟨fun q => h2 (.inl q), fun q => h2 (.inr q)⟩ (by omega) hs
end Go.Proofs.Ytmclbnhbioficac
