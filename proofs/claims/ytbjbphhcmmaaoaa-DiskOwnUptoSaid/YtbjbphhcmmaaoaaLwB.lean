/- A step: what is known of the two disks; Read, Flush, Cut. -/
import Derived.Test.YtbjbphhcmmaaoaaLwA
namespace Go.Proofs.Ytbjbphhcmmaaoaa
open Go.RowKit

/-- The pair of disks number s of Two, at block t. -/
structure SS (w : World) (t s : Nat) (cs : List Value) (pv rv : Value) (FP FR : Nat → Prop) (mo : Option DM) : Prop where
  bt : Blk w t 57 cs
  cl : cs.length = 4
  s2 : s < 2
  cp : cs[s]? = some pv
  cr : cs[2 + s]? = some rv
  sp : SlP w FP pv mo
  sr : SlR w FR rv mo
  d1 : ∀ k, FP k → ¬ FR k
  d2 : ∀ k, FP k ∨ FR k → k ≠ t ∧ k < w.heap.size
theorem SS.G {w w' : World} {t s : Nat} {cs : List Value} {pv rv : Value} {FP FR : Nat → Prop} {mo : Option DM} (h : SS w t s cs pv rv FP FR mo) (g : Go.Proofs.Ytbjbphhcmmaaoaa.G w w') : SS w' t s cs pv rv FP FR mo :=
  ⟨h.bt.G g, h.cl, h.s2, h.cp, h.cr, h.sp.G g, h.sr.G g, h.d1, fun k hk => ⟨(h.d2 k hk).1, Nat.lt_of_lt_of_le (h.d2 k hk).2 g.size⟩⟩
/-- What a step leaves. -/
def StepA (w : World) (t s : Nat) (cs : List Value) (FP FR : Nat → Prop) (B : Nat) (w' : World) : Prop := ∃ cs' pv' rv' FP' FR' mo', SS w' t s cs' pv' rv' FP' FR' mo' ∧ Chg (fun k => FP k ∨ FR k ∨ k = t) w w' ∧ (∀ k, FP' k ∨ FR' k → FP k ∨ FR k ∨ w.heap.size ≤ k) ∧ (∀ j, j ≠ s → j ≠ 2 + s → cs'[j]? = cs[j]?) ∧ fewO mo' (B + 1)
theorem fewO.up {mo : Option DM} {B : Nat} (h : fewO mo B) : fewO mo (B + 1) := fun m e => by obtain ⟨h1, h2, h3⟩ := h m e; exact ⟨by omega, by omega, by omega⟩
theorem SS.stay {w w' : World} {t s : Nat} {cs : List Value} {pv rv : Value} {FP FR : Nat → Prop} {mo : Option DM} {B : Nat} (h : SS w t s cs pv rv FP FR mo) (g : Go.Proofs.Ytbjbphhcmmaaoaa.G w w') (hB : fewO mo B) : StepA w t s cs FP FR B w' :=
  ⟨cs, pv, rv, FP, FR, mo, h.G g, g.chg, fun _ hk => hk.elim .inl (fun x => .inr (.inl x)), fun _ _ _ => rfl, hB.up⟩
/-- Both sides have gone on to mo'. -/
theorem SS.both {w w1 w2 : World} {t s : Nat} {cs : List Value} {pv rv : Value} {FP FR FP' FR' : Nat → Prop} {mo mo' : Option DM} {B : Nat} (h : SS w t s cs pv rv FP FR mo) (k1 : Chg FP w w1) (p1 : SlP w1 FP' pv mo') (k2 : Chg FR w1 w2) (r2 : SlR w2 FR' rv mo') (hP : ∀ k, FP' k → FP k ∨ (w.heap.size ≤ k ∧ k < w1.heap.size)) (hR : ∀ k, FR' k → FR k ∨ (w1.heap.size ≤ k ∧ k < w2.heap.size)) (hB : fewO mo' (B + 1)) : StepA w t s cs FP FR B w2 := by
  have hPR : ∀ k, FP' k → ¬ FR' k := fun k hp hr => by
    rcases hP k hp with h1 | h1 <;> rcases hR k hr with h2 | h2
    · exact h.d1 k h1 h2
    · have := (h.d2 k (.inl h1)).2; have := k1.size; omega
    · have := (h.d2 k (.inr h2)).2; omega
    · omega
  have hPF : ∀ k, FP' k → ¬ FR k := fun k hp hr => by
    rcases hP k hp with h1 | h1
    · exact h.d1 k h1 hr
    · have := (h.d2 k (.inr hr)).2; omega
  have ht := h.bt.lt
  refine ⟨cs, pv, rv, FP', FR', mo', ⟨?_, h.cl, h.s2, h.cp, h.cr, p1.chg k2 hPF, r2, hPR, fun k hk => ?_⟩, ?_, fun k hk => ?_, fun _ _ _ => rfl, hB⟩
  · exact (h.bt.chg k1 (fun e => (h.d2 t (.inl e)).1 rfl)).chg k2 (fun e => (h.d2 t (.inr e)).1 rfl)
  · have s1 := k1.size
    have s2 := k2.size
    rcases hk with hk | hk
    · rcases hP k hk with h1 | h1
      · exact ⟨(h.d2 k (.inl h1)).1, by have := (h.d2 k (.inl h1)).2; omega⟩
      · exact ⟨by omega, by omega⟩
    · rcases hR k hk with h1 | h1
      · exact ⟨(h.d2 k (.inr h1)).1, by have := (h.d2 k (.inr h1)).2; omega⟩
      · exact ⟨by omega, by omega⟩
  · exact (k1.mono (fun k e => .inl e)).trans (k2.mono (fun k e => .inr (.inl e)))
  · have s1 := k1.size
    rcases hk with hk | hk
    · rcases hP k hk with h1 | h1
      · exact .inl h1
      · exact .inr (.inr h1.1)
    · rcases hR k hk with h1 | h1
      · exact .inr (.inl h1)
      · exact .inr (.inr (by omega))
/-- A step's argument. -/
structure Op where
  kind : Int
  who : Int
  n : Int
  dv : Value
  kv : Value
def Op.L (o : Op) : List Value := [I o.kind, I o.who, I o.n, o.dv, o.kv]
/-- What the regions of a step hold on to. -/
def Hd (w : World) (t s ob : Nat) (pv rv : Value) (ol : List Value) : Prop := w.cell? ⟨t, s, none⟩ = some pv ∧ w.cell? ⟨t, 2 + s, none⟩ = some rv ∧ ∀ j, w.cell? ⟨ob, j, none⟩ = ol[j]?
theorem SS.hd {w : World} {t s ob : Nat} {cs ol : List Value} {pv rv : Value} {FP FR : Nat → Prop} {mo : Option DM} (h : SS w t s cs pv rv FP FR mo) (ho : Blk w ob 39 ol) : Hd w t s ob pv rv ol := ⟨by rw [h.bt.cell, h.cp], by rw [h.bt.cell, h.cr], ho.cell⟩
theorem Hd.chg {F : Nat → Prop} {w w' : World} {t s ob : Nat} {pv rv : Value} {ol : List Value} (h : Hd w t s ob pv rv ol) (k : Chg F w w') (hol : 0 < ol.length) (h1 : ¬ F t) (h2 : ¬ F ob) : Hd w' t s ob pv rv ol := by
  refine ⟨cell_chg h.1 k h1, cell_chg h.2.1 k h1, fun j => ?_⟩
  have h0 := h.2.2 0
  rw [List.getElem?_eq_getElem hol] at h0
  have hlt := World.block_lt_of_cell? _ _ h0
  exact (World.cell?_of_block (w := w) (k.block ob hlt h2)).trans (h.2.2 j)
theorem Hd.G {w w' : World} {t s ob : Nat} {pv rv : Value} {ol : List Value} (h : Hd w t s ob pv rv ol) (k : Go.Proofs.Ytbjbphhcmmaaoaa.G w w') (hol : 0 < ol.length) : Hd w' t s ob pv rv ol := h.chg (F := fun _ => False) k.chg hol (fun h => h) (fun h => h)
set_option maxRecDepth 100000 in
set_option maxHeartbeats 4000000 in
theorem step_read (who n : Int) (dv kv : Value) (t s : Nat) (cs : List Value) (pv rv : Value) (FP FR : Nat → Prop) (mo : Option DM) (B : Nat) (hw : bits BinOp.and IntKind.i64 who 1 = (s : Int)) (hBB : B ≤ 549755813888) (w : World) (hB : fewO mo B) (h : SS w t s cs pv rv FP FR mo) : Calls Try.prog 21 #[.pointer (some ⟨t, 0, none⟩), .agg #[I 4, I who, I n, dv, kv]] w fun e w' => e = .returned (.bool true) ∧ StepA w t s cs FP FR B w' := by
  have hBf : fewO mo 549755813888 := fun m e => by obtain ⟨h1, h2, h3⟩ := hB m e; exact ⟨by omega, by omega, by omega⟩
  have HRD := hide (fun W (hW : SlP W FP pv mo) => uP_read FP mo pv n W hBf hW)
  have HRR := hide (fun W (hW : SlR W FR rv mo) => uR_read FR mo rv n W hBf hW)
  have HLN : Hid ((rdB mo n).length ≤ 4611686018427387904) := by
    unfold Hid
    cases mo with
    | none => simp [rdB]
    | some m =>
      obtain ⟨p, _, hd⟩ := h.sp
      by_cases hn : 0 ≤ n ∧ n < m.n
      · cases ho : m.off with
        | true => simp [rdB, hn, ho]
        | false => simp only [rdB, if_pos hn, ho]; simp only [Bool.false_eq_true, if_false]; rw [DM.newest_len hd.ok (by omega)]; decide
      · simp [rdB, hn]
  clear hBf
  have HS0 := hide h
  have hs2 := h.s2
  have HO1 := hide (Blk.new w [I 4, I who, I n, dv, kv] 39)
  have HG1 := hide ((G.refl w).alloc (.cells #[I 4, I who, I n, dv, kv] 39))
  have HB := hide hB
  have hsI : (s : Int) < 2 := by omega
  have hsw : IntKind.i64.wrap (s : Int) = s := by rw [IntKind.wrap_i64]; omega
  clear h hB
  go_enter Try.func21, Try.ntmps21
  go_wp2_with fail
  generalize w.alloc (.cells #[I 4, I who, I n, dv, kv] 39) = w1 at HO1 HG1 ⊢
  have HS1 := hide (HS0.out.G HG1.out)
  have HH1 := hide (HS1.out.hd HO1.out)
  refine wp_region_noPanic ?_
  refine wp_region_held_drew (S := (fun W => Hd W t s w.heap.size pv rv [I 4, I who, I n, dv, kv])) (by kernel_rfl) (HH1.out.G (G.drew (G.refl _)) (by simp)) (fun hHeld => ?_)
  refine wpAnyH_take (i := 0) (v := ?_) rfl (by kernel_rfl) (by kernel_rfl) (by kernel_rfl) (fun _ _ _ h => h) (Or.inl ⟨by rfl, ?_⟩) hHeld ?_
  rotate_left 1
  · (intro w hSw; (try dsimp only at hSw); go_simp; try with_reducible rfl)
  try simp only [Act.put, List.getElem_toArray, List.getElem_cons_zero, List.setIfInBounds_toArray, List.set_cons_zero, List.set_cons_succ]
  refine wpAnyH_take (i := 1) (v := ?_) rfl (by kernel_rfl) (by kernel_rfl) (by kernel_rfl) (fun _ _ _ h => h) (Or.inl ⟨by rfl, ?_⟩) hHeld ?_
  rotate_left 1
  · (intro w hSw; (try dsimp only at hSw); go_simp; try with_reducible rfl)
  try simp only [Act.put, List.getElem_toArray, List.getElem_cons_zero, List.getElem_cons_succ, List.setIfInBounds_toArray, List.set_cons_zero, List.set_cons_succ]
  refine wpAnyH_take (i := 2) (v := ?_) rfl (by kernel_rfl) (by kernel_rfl) (by kernel_rfl) (fun _ _ _ h => h) (Or.inl ⟨by rfl, ?_⟩) hHeld ?_
  rotate_left 1
  · (intro w hSw; (try dsimp only at hSw); go_simp; try with_reducible rfl)
  try simp only [Act.put, List.getElem_toArray, List.getElem_cons_zero, List.getElem_cons_succ, List.setIfInBounds_toArray, List.set_cons_zero, List.set_cons_succ]
  refine wpAnyH_take (i := 3) (v := ?_) rfl (by kernel_rfl) (by kernel_rfl) (by kernel_rfl) (fun _ _ _ h => h) (Or.inl ⟨by rfl, ?_⟩) hHeld ?_
  rotate_left 1
  · (intro w hSw; (try dsimp only at hSw); go_simp; try with_reducible rfl)
  try simp only [Act.put, List.getElem_toArray, List.getElem_cons_zero, List.getElem_cons_succ, List.setIfInBounds_toArray, List.set_cons_zero, List.set_cons_succ]
  refine wpAnyH_take (i := 4) (v := ?_) rfl (by kernel_rfl) (by kernel_rfl) (by kernel_rfl) (fun _ _ _ h => h) (Or.inl ⟨by rfl, ?_⟩) hHeld ?_
  rotate_left 1
  · (intro w hSw; (try dsimp only at hSw); go_simp; try with_reducible rfl)
  try simp only [Act.put, List.getElem_toArray, List.getElem_cons_zero, List.getElem_cons_succ, List.setIfInBounds_toArray, List.set_cons_zero, List.set_cons_succ]
  refine wpAnyH_take (i := 5) (v := ?_) rfl (by kernel_rfl) (by kernel_rfl) (by kernel_rfl) (fun _ _ _ h => h) (Or.inl ⟨by rfl, ?_⟩) hHeld ?_
  rotate_left 1
  · (intro w hSw; obtain ⟨q1, q2, q3⟩ := hSw; go_simp; try with_reducible rfl)
  try simp only [Act.put, List.getElem_toArray, List.getElem_cons_zero, List.getElem_cons_succ, List.setIfInBounds_toArray, List.set_cons_zero, List.set_cons_succ]
  refine wpAnyH_take (i := 6) (v := ?_) rfl (by kernel_rfl) (by kernel_rfl) (by kernel_rfl) (fun _ _ _ h => h) (Or.inl ⟨by rfl, ?_⟩) hHeld ?_
  rotate_left 1
  · (intro w hSw; (try dsimp only at hSw); go_simp; try with_reducible rfl)
  try simp only [Act.put, List.getElem_toArray, List.getElem_cons_zero, List.getElem_cons_succ, List.setIfInBounds_toArray, List.set_cons_zero, List.set_cons_succ]
  refine wpAnyH_take (i := 7) (v := ?_) rfl (by kernel_rfl) (by kernel_rfl) (by kernel_rfl) (fun _ _ _ h => h) (Or.inl ⟨by rfl, ?_⟩) hHeld ?_
  rotate_left 1
  · (intro w hSw; obtain ⟨q1, q2, q3⟩ := hSw; go_simp; try with_reducible rfl)
  try simp only [Act.put, List.getElem_toArray, List.getElem_cons_zero, List.getElem_cons_succ, List.setIfInBounds_toArray, List.set_cons_zero, List.set_cons_succ]
  refine wpAnyH_ready (rs := [8]) (by kernel_rfl) (by simp) (AllReadyH.cons rfl (fun K hK => ?_) AllReadyH.nil)
  clear hHeld
  go_simp
  with_reducible refine (HRD.out _ ?_).mono ?_
  exact HS1.out.sp.G (G.drew (G.refl _))
  rintro e' w2 ⟨xw2, rfl, hb, hx⟩
  have HG2 := hide (G.trans (G.drew (G.refl _)) hb)
  have HXw2 := hide hx
  clear hb hx
  go_wp2_with fail
  refine hK.out _ _ (HH1.out.G HG2.out (by simp)) (fun hHeld => ?_)
  clear hK K
  try simp only [Act.put, List.getElem_toArray, List.getElem_cons_zero, List.getElem_cons_succ, List.setIfInBounds_toArray, List.set_cons_zero, List.set_cons_succ]
  refine wpAnyH_take (i := 9) (v := ?_) rfl (by kernel_rfl) (by kernel_rfl) (by kernel_rfl) (fun _ _ _ h => h) (Or.inl ⟨by rfl, ?_⟩) hHeld ?_
  rotate_left 1
  · (intro w hSw; (try dsimp only at hSw); go_simp; try with_reducible rfl)
  try simp only [Act.put, List.getElem_toArray, List.getElem_cons_zero, List.getElem_cons_succ, List.setIfInBounds_toArray, List.set_cons_zero, List.set_cons_succ]
  refine wpAnyH_take (i := 10) (v := ?_) rfl (by kernel_rfl) (by kernel_rfl) (by kernel_rfl) (fun _ _ _ h => h) (Or.inl ⟨by rfl, ?_⟩) hHeld ?_
  rotate_left 1
  · (intro w hSw; (try dsimp only at hSw); go_simp; try with_reducible rfl)
  try simp only [Act.put, List.getElem_toArray, List.getElem_cons_zero, List.getElem_cons_succ, List.setIfInBounds_toArray, List.set_cons_zero, List.set_cons_succ]
  refine wpAnyH_take (i := 11) (v := ?_) rfl (by kernel_rfl) (by kernel_rfl) (by kernel_rfl) (fun _ _ _ h => h) (Or.inl ⟨by rfl, ?_⟩) hHeld ?_
  rotate_left 1
  · (intro w hSw; (try dsimp only at hSw); go_simp; try with_reducible rfl)
  try simp only [Act.put, List.getElem_toArray, List.getElem_cons_zero, List.getElem_cons_succ, List.setIfInBounds_toArray, List.set_cons_zero, List.set_cons_succ]
  refine wpAnyH_take (i := 12) (v := ?_) rfl (by kernel_rfl) (by kernel_rfl) (by kernel_rfl) (fun _ _ _ h => h) (Or.inl ⟨by rfl, ?_⟩) hHeld ?_
  rotate_left 1
  · (intro w hSw; (try dsimp only at hSw); go_simp; try with_reducible rfl)
  try simp only [Act.put, List.getElem_toArray, List.getElem_cons_zero, List.getElem_cons_succ, List.setIfInBounds_toArray, List.set_cons_zero, List.set_cons_succ]
  refine wpAnyH_take (i := 13) (v := ?_) rfl (by kernel_rfl) (by kernel_rfl) (by kernel_rfl) (fun _ _ _ h => h) (Or.inl ⟨by rfl, ?_⟩) hHeld ?_
  rotate_left 1
  · (intro w hSw; (try dsimp only at hSw); go_simp; try with_reducible rfl)
  try simp only [Act.put, List.getElem_toArray, List.getElem_cons_zero, List.getElem_cons_succ, List.setIfInBounds_toArray, List.set_cons_zero, List.set_cons_succ]
  refine wpAnyH_done (by kernel_rfl) ?_ _
  refine NoPanic.normal ?_
  go_wp2_with fail
  refine wp_region_noPanic ?_
  refine wp_region_held_drew (S := (fun W => Hd W t s w.heap.size pv rv [I 4, I who, I n, dv, kv])) (by kernel_rfl) ((HH1.out.G HG2.out (by simp)).G (G.drew (G.refl _)) (by simp)) (fun hHeld => ?_)
  refine wpAnyH_take (i := 0) (v := ?_) rfl (by kernel_rfl) (by kernel_rfl) (by kernel_rfl) (fun _ _ _ h => h) (Or.inl ⟨by rfl, ?_⟩) hHeld ?_
  rotate_left 1
  · (intro w hSw; (try dsimp only at hSw); go_simp; try with_reducible rfl)
  try simp only [Act.put, List.getElem_toArray, List.getElem_cons_zero, List.setIfInBounds_toArray, List.set_cons_zero, List.set_cons_succ]
  refine wpAnyH_take (i := 1) (v := ?_) rfl (by kernel_rfl) (by kernel_rfl) (by kernel_rfl) (fun _ _ _ h => h) (Or.inl ⟨by rfl, ?_⟩) hHeld ?_
  rotate_left 1
  · (intro w hSw; (try dsimp only at hSw); go_simp; try with_reducible rfl)
  try simp only [Act.put, List.getElem_toArray, List.getElem_cons_zero, List.getElem_cons_succ, List.setIfInBounds_toArray, List.set_cons_zero, List.set_cons_succ]
  refine wpAnyH_take (i := 2) (v := ?_) rfl (by kernel_rfl) (by kernel_rfl) (by kernel_rfl) (fun _ _ _ h => h) (Or.inl ⟨by rfl, ?_⟩) hHeld ?_
  rotate_left 1
  · (intro w hSw; (try dsimp only at hSw); go_simp; try with_reducible rfl)
  try simp only [Act.put, List.getElem_toArray, List.getElem_cons_zero, List.getElem_cons_succ, List.setIfInBounds_toArray, List.set_cons_zero, List.set_cons_succ]
  refine wpAnyH_take (i := 3) (v := ?_) rfl (by kernel_rfl) (by kernel_rfl) (by kernel_rfl) (fun _ _ _ h => h) (Or.inl ⟨by rfl, ?_⟩) hHeld ?_
  rotate_left 1
  · (intro w hSw; (try dsimp only at hSw); go_simp; try with_reducible rfl)
  try simp only [Act.put, List.getElem_toArray, List.getElem_cons_zero, List.getElem_cons_succ, List.setIfInBounds_toArray, List.set_cons_zero, List.set_cons_succ]
  refine wpAnyH_take (i := 4) (v := ?_) rfl (by kernel_rfl) (by kernel_rfl) (by kernel_rfl) (fun _ _ _ h => h) (Or.inl ⟨by rfl, ?_⟩) hHeld ?_
  rotate_left 1
  · (intro w hSw; (try dsimp only at hSw); go_simp; try with_reducible rfl)
  try simp only [Act.put, List.getElem_toArray, List.getElem_cons_zero, List.getElem_cons_succ, List.setIfInBounds_toArray, List.set_cons_zero, List.set_cons_succ]
  refine wpAnyH_take (i := 5) (v := ?_) rfl (by kernel_rfl) (by kernel_rfl) (by kernel_rfl) (fun _ _ _ h => h) (Or.inl ⟨by rfl, ?_⟩) hHeld ?_
  rotate_left 1
  · (intro w hSw; obtain ⟨q1, q2, q3⟩ := hSw; go_simp; try with_reducible rfl)
  try simp only [Act.put, List.getElem_toArray, List.getElem_cons_zero, List.getElem_cons_succ, List.setIfInBounds_toArray, List.set_cons_zero, List.set_cons_succ]
  refine wpAnyH_take (i := 6) (v := ?_) rfl (by kernel_rfl) (by kernel_rfl) (by kernel_rfl) (fun _ _ _ h => h) (Or.inl ⟨by rfl, ?_⟩) hHeld ?_
  rotate_left 1
  · (intro w hSw; (try dsimp only at hSw); go_simp; try with_reducible rfl)
  try simp only [Act.put, List.getElem_toArray, List.getElem_cons_zero, List.getElem_cons_succ, List.setIfInBounds_toArray, List.set_cons_zero, List.set_cons_succ]
  refine wpAnyH_take (i := 7) (v := ?_) rfl (by kernel_rfl) (by kernel_rfl) (by kernel_rfl) (fun _ _ _ h => h) (Or.inl ⟨by rfl, ?_⟩) hHeld ?_
  rotate_left 1
  · (intro w hSw; obtain ⟨q1, q2, q3⟩ := hSw; go_simp; try with_reducible rfl)
  try simp only [Act.put, List.getElem_toArray, List.getElem_cons_zero, List.getElem_cons_succ, List.setIfInBounds_toArray, List.set_cons_zero, List.set_cons_succ]
  refine wpAnyH_ready (rs := [8]) (by kernel_rfl) (by simp) (AllReadyH.cons rfl (fun K hK => ?_) AllReadyH.nil)
  clear hHeld
  go_simp
  with_reducible refine (HRR.out _ ?_).mono ?_
  exact (HS1.out.sr.G HG2.out).G (G.drew (G.refl _))
  rintro e' w3 ⟨xw3, rfl, hb, hx⟩
  have HG3 := hide (G.trans (G.drew (G.refl _)) hb)
  have HXw3 := hide hx
  clear hb hx
  go_wp2_with fail
  refine hK.out _ _ ((HH1.out.G HG2.out (by simp)).G HG3.out (by simp)) (fun hHeld => ?_)
  clear hK K
  try simp only [Act.put, List.getElem_toArray, List.getElem_cons_zero, List.getElem_cons_succ, List.setIfInBounds_toArray, List.set_cons_zero, List.set_cons_succ]
  refine wpAnyH_take (i := 9) (v := ?_) rfl (by kernel_rfl) (by kernel_rfl) (by kernel_rfl) (fun _ _ _ h => h) (Or.inl ⟨by rfl, ?_⟩) hHeld ?_
  rotate_left 1
  · (intro w hSw; (try dsimp only at hSw); go_simp; try with_reducible rfl)
  try simp only [Act.put, List.getElem_toArray, List.getElem_cons_zero, List.getElem_cons_succ, List.setIfInBounds_toArray, List.set_cons_zero, List.set_cons_succ]
  refine wpAnyH_take (i := 10) (v := ?_) rfl (by kernel_rfl) (by kernel_rfl) (by kernel_rfl) (fun _ _ _ h => h) (Or.inl ⟨by rfl, ?_⟩) hHeld ?_
  rotate_left 1
  · (intro w hSw; (try dsimp only at hSw); go_simp; try with_reducible rfl)
  try simp only [Act.put, List.getElem_toArray, List.getElem_cons_zero, List.getElem_cons_succ, List.setIfInBounds_toArray, List.set_cons_zero, List.set_cons_succ]
  refine wpAnyH_take (i := 11) (v := ?_) rfl (by kernel_rfl) (by kernel_rfl) (by kernel_rfl) (fun _ _ _ h => h) (Or.inl ⟨by rfl, ?_⟩) hHeld ?_
  rotate_left 1
  · (intro w hSw; (try dsimp only at hSw); go_simp; try with_reducible rfl)
  try simp only [Act.put, List.getElem_toArray, List.getElem_cons_zero, List.getElem_cons_succ, List.setIfInBounds_toArray, List.set_cons_zero, List.set_cons_succ]
  refine wpAnyH_take (i := 12) (v := ?_) rfl (by kernel_rfl) (by kernel_rfl) (by kernel_rfl) (fun _ _ _ h => h) (Or.inl ⟨by rfl, ?_⟩) hHeld ?_
  rotate_left 1
  · (intro w hSw; (try dsimp only at hSw); go_simp; try with_reducible rfl)
  try simp only [Act.put, List.getElem_toArray, List.getElem_cons_zero, List.getElem_cons_succ, List.setIfInBounds_toArray, List.set_cons_zero, List.set_cons_succ]
  refine wpAnyH_take (i := 13) (v := ?_) rfl (by kernel_rfl) (by kernel_rfl) (by kernel_rfl) (fun _ _ _ h => h) (Or.inl ⟨by rfl, ?_⟩) hHeld ?_
  rotate_left 1
  · (intro w hSw; (try dsimp only at hSw); go_simp; try with_reducible rfl)
  try simp only [Act.put, List.getElem_toArray, List.getElem_cons_zero, List.getElem_cons_succ, List.setIfInBounds_toArray, List.set_cons_zero, List.set_cons_succ]
  refine wpAnyH_done (by kernel_rfl) ?_ _
  refine NoPanic.normal ?_
  have HSM := hide (same_true xw2 xw3 (rdB mo n) HLN.out w3 (HXw2.out.G HG3.out) HXw3.out)
  go_wp2_with fail
  refine HSM.out.mono ?_
  rintro e' w4 ⟨rfl, hb⟩
  have HGA := hide (((HG1.out.trans HG2.out).trans HG3.out).trans hb)
  clear hb
  go_wp2
  go_ret
  exact ⟨rfl, HS0.out.stay HGA.out HB.out⟩
end Go.Proofs.Ytbjbphhcmmaaoaa
