/- Paths: a search in memory; add. -/
import Derived.Test.YtemkilffagjmcaaDoorPj1
import Derived.Test.YtemkilffagjmcaaDoorPjM
import Derived.Deep.QuietTactic
namespace Go.Proofs.YtemkilffagjmcaaDoor
open Go.RowKit

/-- What a search turns. -/
abbrev sTs : List TypeId := [76, 72, 95, 97]
/-- A search in memory: its arcs fa, its weight fw, its finds fs, where the best find of each node stands (bs), its heap l of which t came, c settled. -/
structure SM (Wb W : World) (sb B mb h : Nat) (fa fw fv v : Value) (fs : List Fd) (bs : Int → Option Nat) (l : List It) (t : Int) (c : Nat) : Prop where
  g : G Wb W
  blk : Blk W sb 76 [fa, fw, fv, .map (some mb), ptr h, I c]
  box : Blk W B 67 [ptr sb]
  fin : Fin Wb.heap.size W fv fs
  map : Mp (fun n : Int => I n) 2 W mb (fun n => (bs n).map fun (i : Nat) => I (i : Int))
  hp : HP W h (.func (.func 37) #[] #[ptr B]) v l t
  lo : Wb.heap.size ≤ sb ∧ Wb.heap.size ≤ B ∧ Wb.heap.size ≤ mb ∧ Wb.heap.size ≤ h
  lv : ∀ b, v.ownBlock = some b → Wb.heap.size ≤ b
section
variable {Wb W W' : World} {sb B mb h : Nat} {fa fw fv v : Value} {fs : List Fd} {bs : Int → Option Nat} {l : List It} {t : Int} {c : Nat}
theorem HP.mv {f : Value} {us : List TypeId} {mp : Nat → Prop} (k : HP W h f v l t) (q : Mv Wb us mp W W') (h1 : 95 ∉ us) (h2 : 97 ∉ us) : HP W' h f v l t := by
  refine ⟨k.blk.mv q h1, k.sl.keep fun b hb => ?_⟩
  rcases k.sl with ⟨rfl, _⟩ | ⟨g, cap, rest, rfl, hg, _⟩
  · simp [Value.ownBlock] at hb
  · simp [Value.ownBlock] at hb; subst hb; exact q.blk _ _ _ hg h2
theorem SM.mv {us : List TypeId} {mp : Nat → Prop} (k : SM Wb W sb B mb h fa fw fv v fs bs l t c) (q : Mv Wb us mp W W') (h0 : ∀ e, e ∈ [76, 67, 72, 95, 97] → e ∉ us) (h1 : ¬ mp mb) : SM Wb W' sb B mb h fa fw fv v fs bs l t c :=
  ⟨q.G k.g, k.blk.mv q (h0 _ (by simp)), k.box.mv q (h0 _ (by simp)), k.fin.mv q (h0 _ (by simp)), k.map.mv q h1, k.hp.mv q (h0 _ (by simp)) (h0 _ (by simp)), k.lo, k.lv⟩
theorem SM.G (k : SM Wb W sb B mb h fa fw fv v fs bs l t c) (q : Go.Proofs.YtemkilffagjmcaaDoor.G W W') : SM Wb W' sb B mb h fa fw fv v fs bs l t c :=
  k.mv (us := []) (mp := fun _ => False) (.of_G k.g q) (fun _ _ => by simp) (fun q => q)
theorem SM.kf (k : SM Wb W sb B mb h fa fw fv v fs bs l t c) : KF B sb fv Wb.heap.size fs W := ⟨k.box, ⟨_, _, _, _, _, k.blk⟩, k.fin⟩
/-- The heap's own doings. -/
theorem SM.hpmv (k : SM Wb W sb B mb h fa fw fv v fs bs l t c) (q : Chg (hpB h v) W W') : Mv Wb [95, 97] (fun _ => False) W W' := by
  refine .of_chg k.g q (fun b hb => ?_) (fun b e xs hb hF => ?_) (fun b es c hb hF => ?_)
  · rcases hb with rfl | hb
    · exact k.lo.2.2.2
    · exact k.lv b hb
  · rcases Decidable.em (e = 95) with e1 | e1
    · simp [e1]
    · rcases Decidable.em (e = 97) with e2 | e2
      · simp [e2]
      · exact absurd hF (k.hp.off hb e1 e2)
  · rcases hF with rfl | hF
    · exact k.hp.blk.nomap hb
    · rcases k.hp.sl with ⟨rfl, _⟩ | ⟨g, cap, rest, rfl, hg, _⟩
      · simp [Value.ownBlock] at hF
      · simp [Value.ownBlock] at hF; subst hF; exact hg.nomap hb
/-- Behind the heap's doings. -/
theorem SM.heap {v' : Value} {l' : List It} {t' : Int} (k : SM Wb W sb B mb h fa fw fv v fs bs l t c) (q : Chg (hpB h v) W W') (hp' : HP W' h (.func (.func 37) #[] #[ptr B]) v' l' t') (hv : v'.ownBlock = v.ownBlock ∨ ∃ b, v'.ownBlock = some b ∧ W.heap.size ≤ b) : SM Wb W' sb B mb h fa fw fv v' fs bs l' t' c := by
  have m := k.hpmv q
  refine ⟨m.G k.g, k.blk.mv m (by decide), k.box.mv m (by decide), k.fin.mv m (by decide), k.map.mv m (fun q => q), hp', k.lo, fun b hb => ?_⟩
  rcases hv with e | ⟨b', e, hl⟩
  · exact k.lv b (by rw [← e]; exact hb)
  · rw [e] at hb
    cases hb
    exact Nat.le_trans k.g.size hl
end
theorem drewN_heap (w : World) (n : Nat) : (w.drewN n).heap = w.heap := rfl
theorem Mp.lookOkN {α : Type} {enc : α → Value} {k : TypeId} {w : World} {b : Nat} {g : α → Option Value} (h : Mp enc k w b g) (Y : Ky enc k) {t e : TypeId} (ht : Tryd.prog.underlying t = some (.map k e)) {z : Value} (hz : ∀ w, (zeroValue e).run Tryd.prog w = .ok z w) {a : α} (ha : KyOk enc k a) :
    ∀ n, (Instr.lookup t (.map (some b)) (enc a) true).run Tryd.prog (w.drewN n) = .ok (.tuple #[(g a).getD z, .bool (g a).isSome]) (w.drewN n) := fun n =>
  Mp.lookOk (h.keep (by rw [drewN_heap])) Y ht (hz _) ha
theorem Mp.lookN {α : Type} {enc : α → Value} {k : TypeId} {w : World} {b : Nat} {g : α → Option Value} (h : Mp enc k w b g) (Y : Ky enc k) {t e : TypeId} (ht : Tryd.prog.underlying t = some (.map k e)) {z : Value} (hz : ∀ w, (zeroValue e).run Tryd.prog w = .ok z w) {a : α} (ha : KyOk enc k a) :
    ∀ n, (Instr.lookup t (.map (some b)) (enc a) false).run Tryd.prog (w.drewN n) = .ok ((g a).getD z) (w.drewN n) := fun n =>
  Mp.look (h.keep (by rw [drewN_heap])) Y ht (hz _) ha
theorem g_drewN (w : World) (n : Nat) : G w (w.drewN n) := by
  induction n with
  | zero => exact G.refl _
  | succ n ih => exact ih.drew
theorem wp_put {α : Type} [DecidableEq α] {enc : α → Value} {k : TypeId} {b : Nat} {g : α → Option Value} {w : World} {op : Oper} {a : Act} {K : Act → World → Prop} {Q : Exit → Act → World → Prop}
    (m x v : Operand) (t : TypeId) (hop : op.op = Op.mapUpdate t m x v) (h : Mp enc k w b g) (hm : a.eval m = .map (some b)) (Y : Ky enc k) (L : List α) (hL : ∀ a, KyOk enc k a → g a ≠ none → a ∈ L) (hl : L.length < maxLen)
    {e : TypeId} (ht : Tryd.prog.underlying t = some (.map k e)) (key : α) (hx : a.eval x = enc key) (ha : KyOk enc k key) (val : Value) (hv : a.eval v = val)
    (hK : ∀ w', Mp enc k w' b (upd g key (some val)) → Chg (fun k => k = b) w w' → w'.heap.size = w.heap.size → K (a.put op.dst undef) w') : op.wp Tryd.prog a w K Q := by
  obtain ⟨w', hrun, r1, r2, r3⟩ := h.put Y L hL hl ht ha val
  unfold Oper.wp
  simp [execOp, hop, hm, hx, hv, hrun, Result.andThen]
  exact hK w' r1 r2 r3
/-- Is what was found of that node so far as good? -/
def keepB (fs : List Fd) (bs : Int → Option Nat) (f : Fd) : Bool := match bs f.n with | none => false | some i => decide ((fs[i]!).s ≤ f.s)
theorem map_upd (bs : Int → Option Nat) (a : Int) (i : Nat) : upd (fun n => (bs n).map fun (i : Nat) => I (i : Int)) a (some (I (i : Int))) = fun n => (upd bs a (some i) n).map fun (i : Nat) => I (i : Int) := by
  funext n
  unfold upd
  split <;> simp
theorem info_f : ∃ i, Tryd.prog.info? 72 = some i ∧ i.zero = some (.agg #[I 0, I 0, I 0, I 0]) ∧ i.size = 4 ∧ i.bytes = 32 := info_parts (by kernel_rfl)
set_option maxRecDepth 100000 in
set_option maxHeartbeats 2000000 in
theorem add_keep (Wb W : World) (sb B mb h : Nat) (fa fw fv v : Value) (fs : List Fd) (bs : Int → Option Nat) (l : List It) (t : Int) (c : Nat) (f : Fd) (k : SM Wb W sb B mb h fa fw fv v fs bs l t c) (hn : R64 f.n) (hi : ∀ n i, bs n = some i → i < fs.length) (hk : keepB fs bs f = true) :
    Calls Tryd.prog 38 #[ptr sb, .agg #[I f.n, I f.s, I f.e, I f.b]] W fun e W' => e = .returned (.tuple #[]) ∧ SM Wb W' sb B mb h fa fw fv v fs bs l t c ∧ G W W' := by
  obtain ⟨i, hb, hle⟩ : ∃ i, bs f.n = some i ∧ (fs[i]!).s ≤ f.s := by
    unfold keepB at hk
    split at hk
    · cases hk
    · rename_i i e
      exact ⟨i, e, by simpa using hk⟩
  have hil := hi f.n i hb
  have k1 := k.G ((G.refl W).alloc (.cells #[I f.n, I f.s, I f.e, I f.b] 72))
  have hl := k1.map.lookOkN kyI Tryd.underlying58 Tryd.zeroValue3 (kyI_ok.2 hn)
  simp only [hb] at hl
  obtain ⟨x, hx⟩ : ∃ x, fs[i]? = some x := ⟨_, List.getElem?_eq_getElem hil⟩
  have ex : fs[i]! = x := by simp [hx]
  rw [ex] at hle
  obtain ⟨g, cap, rfl, hg, x1, x2, x3, x4⟩ := fin_at k1.fin hx
  have hc := k1.blk.cell
  have hB := (Blk.new W [I f.n, I f.s, I f.e, I f.b] 72).cell
  have HK := hide k1
  have hI : (i : Int) < fs.length := by omega
  have hd : decide (x.s ≤ f.s) = true := decide_eq_true hle
  have HG := hide ((G.refl W).alloc (.cells #[I f.n, I f.s, I f.e, I f.b] 72))
  clear k k1 hi hk hb ex hx hn
  go_enter Tryd.func38, Tryd.ntmps38
  go_wp2_with fail
  go_quiet (fail)
  go_wp2_with fail
  go_quiet (fail)
  go_wp2_with fail
  refine bodyPost_ret (v := .tuple #[]) (by simp [results, Tryd.results38, go_sem]) rfl ⟨rfl, HK.out.G ((g_drewN _ _).trans (g_drewN _ _)), HG.out.trans ((g_drewN _ _).trans (g_drewN _ _))⟩
set_option maxRecDepth 100000 in
set_option maxHeartbeats 2000000 in
theorem add_none (Wb W : World) (sb B mb h : Nat) (fa fw fv v : Value) (fs : List Fd) (bs : Int → Option Nat) (l : List It) (c : Nat) (f : Fd) (k : SM Wb W sb B mb h fa fw fv v fs bs l fs.length c) (hn : R64 f.n) (hL : ∀ n, bs n ≠ none → n ∈ fs.map (·.n)) (hD : ∀ x ∈ l, 0 ≤ x.1 ∧ x.1 < fs.length) (hll : l.length ≤ fs.length) (hfl : fs.length < 17179869183) (hh : Hp.HI (Hp.ah (ltF fs)) l) (hk : bs f.n = none) :
    Calls Tryd.prog 38 #[ptr sb, .agg #[I f.n, I f.s, I f.e, I f.b]] W fun e W' => e = .returned (.tuple #[]) ∧ ∃ fv' v' l', SM Wb W' sb B mb h fa fw fv' v' (fs ++ [f]) (upd bs f.n (some fs.length)) l' ((fs.length : Int) + 1) c ∧ l'.Perm (((fs.length : Int), (fs.length : Int)) :: l) ∧ Hp.HI (Hp.ah (ltF (fs ++ [f]))) l' ∧ Mv Wb sTs (fun b => b = mb) W W' := by
  obtain ⟨va, vc, rfl⟩ := k.fin.form
  obtain ⟨t, ht⟩ : ∃ t : Int, t = fs.length := ⟨_, rfl⟩
  rw [← ht] at k
  have k1 := k.G ((G.refl W).alloc (.cells #[I f.n, I f.s, I f.e, I f.b] 72))
  have HFX : Hid ((Value.slice va fs.length vc).ownBlock ≠ some W.heap.size) := fun e => Nat.lt_irrefl _ (k.fin.own e).2.1
  have hl := k1.map.lookOkN kyI Tryd.underlying58 Tryd.zeroValue3 (kyI_ok.2 hn)
  simp only [hk] at hl
  have hc := k1.blk.cell
  have hB := (Blk.new W [I f.n, I f.s, I f.e, I f.b] 72).cell
  have HK := hide k1
  have HB := hide (Blk.new W [I f.n, I f.s, I f.e, I f.b] 72)
  have HG := hide ((G.refl W).alloc (.cells #[I f.n, I f.s, I f.e, I f.b] 72))
  have HGW := hide k.g
  have HL : Hid (∀ n, (bs n).map (fun (i : Nat) => I (i : Int)) ≠ none → n ∈ fs.map (·.n)) := fun n q => hL n (fun e => q (by rw [e]; rfl))
  have HLL : Hid ((fs.map (·.n)).length < maxLen) := by
    show _ < _
    rw [List.length_map]
    exact Nat.lt_trans hfl (of_decide_eq_true (by kernel_rfl))
  have HN1 : Hid (fs.length + 1 ≤ maxLen) := Nat.le_trans (Nat.succ_le_of_lt hfl) (of_decide_eq_true (by kernel_rfl))
  have HN2 : Hid ((fs.length + 1) * 32 ≤ 140737488355328) := by show _ ≤ _; omega
  have HR := hide hn
  have HD := hide hD
  have HH := hide hh
  have HFL := hide hfl
  have HLF := hide hll
  have HT := hide ht
  clear k k1 hn hL hfl hD hh hll ht
  go_enter Tryd.func38, Tryd.ntmps38
  go_wp2_with fail
  go_quiet (fail)
  go_wp2_with fail
  go_quiet (fail)
  go_wp2_with fail
  generalize hw3 : World.drewN (W.alloc (.cells #[I f.n, I f.s, I f.e, I f.b] 72)) _ = w3
  have HG3 : Hid (G (W.alloc (.cells #[I f.n, I f.s, I f.e, I f.b] 72)) w3) := by rw [← hw3]; exact g_drewN _ _
  clear hw3 hl hc hB
  have HST : Hid ((fun V => SM Wb V sb B mb h fa fw (.slice va fs.length vc) v fs bs l t c ∧ Blk V W.heap.size 72 [I f.n, I f.s, I f.e, I f.b]) w3.drew) := ⟨HK.out.G HG3.out.drew, HB.out.G HG3.out.drew⟩
  refine wp_region_noPanic ?_
  refine wp_region_L (S := (fun V => SM Wb V sb B mb h fa fw (.slice va fs.length vc) v fs bs l t c ∧ Blk V W.heap.size 72 [I f.n, I f.s, I f.e, I f.b])) 7 (by kernel_rfl) (HST.out) (fun hHeld => ?_)
  refine wpAnyL_take (i := 0) (v := ?_) rfl (by kernel_rfl) (by kernel_rfl) (by kernel_rfl) (by kernel_rfl) (fun _ _ _ h => h) (Or.inl ⟨by rfl, ?_⟩) hHeld ?_
  rotate_left 1
  · (intro w hSw; obtain ⟨h1, h2⟩ := hSw; have hc := h1.blk.cell; have hb := h2.cell; go_simp; try with_reducible rfl)
  try simp only [Act.put, List.getElem_toArray, List.getElem_cons_zero, List.setIfInBounds_toArray, List.set_cons_zero, List.set_cons_succ]
  refine wpAnyL_take (i := 1) (v := ?_) rfl (by kernel_rfl) (by kernel_rfl) (by kernel_rfl) (by kernel_rfl) (fun _ _ _ h => h) (Or.inl ⟨by rfl, ?_⟩) hHeld ?_
  rotate_left 1
  · (intro w hSw; obtain ⟨h1, h2⟩ := hSw; have hc := h1.blk.cell; have hb := h2.cell; go_simp; try with_reducible rfl)
  try simp only [Act.put, List.getElem_toArray, List.getElem_cons_zero, List.getElem_cons_succ, List.setIfInBounds_toArray, List.set_cons_zero, List.set_cons_succ]
  refine wpAnyL_take (i := 2) (v := ?_) rfl (by kernel_rfl) (by kernel_rfl) (by kernel_rfl) (by kernel_rfl) (fun _ _ _ h => h) (Or.inl ⟨by rfl, ?_⟩) hHeld ?_
  rotate_left 1
  · (intro w hSw; obtain ⟨h1, h2⟩ := hSw; have hc := h1.blk.cell; have hb := h2.cell; go_simp; try with_reducible rfl)
  try simp only [Act.put, List.getElem_toArray, List.getElem_cons_zero, List.getElem_cons_succ, List.setIfInBounds_toArray, List.set_cons_zero, List.set_cons_succ]
  refine wpAnyL_take (i := 3) (v := ?_) rfl (by kernel_rfl) (by kernel_rfl) (by kernel_rfl) (by kernel_rfl) (fun _ _ _ h => h) (Or.inl ⟨by rfl, ?_⟩) hHeld ?_
  rotate_left 1
  · (intro w hSw; obtain ⟨h1, h2⟩ := hSw; have hc := h1.blk.cell; have hb := h2.cell; go_simp; try with_reducible rfl)
  try simp only [Act.put, List.getElem_toArray, List.getElem_cons_zero, List.getElem_cons_succ, List.setIfInBounds_toArray, List.set_cons_zero, List.set_cons_succ]
  refine wpAnyL_take (i := 4) (v := ?_) rfl (by kernel_rfl) (by kernel_rfl) (by kernel_rfl) (by kernel_rfl) (fun _ _ _ h => h) (Or.inl ⟨by rfl, ?_⟩) hHeld ?_
  rotate_left 1
  · (intro w hSw; obtain ⟨h1, h2⟩ := hSw; have hc := h1.blk.cell; have hb := h2.cell; go_simp; try with_reducible rfl)
  try simp only [Act.put, List.getElem_toArray, List.getElem_cons_zero, List.getElem_cons_succ, List.setIfInBounds_toArray, List.set_cons_zero, List.set_cons_succ]
  refine wpAnyL_take (i := 5) (v := ?_) rfl (by kernel_rfl) (by kernel_rfl) (by kernel_rfl) (by kernel_rfl) (fun _ _ _ h => h) (Or.inl ⟨by rfl, ?_⟩) hHeld ?_
  rotate_left 1
  · (intro w hSw; obtain ⟨h1, h2⟩ := hSw; have hc := h1.blk.cell; have hb := h2.cell; go_simp; try with_reducible rfl)
  try simp only [Act.put, List.getElem_toArray, List.getElem_cons_zero, List.getElem_cons_succ, List.setIfInBounds_toArray, List.set_cons_zero, List.set_cons_succ]
  refine wpAnyL_take (i := 6) (v := ?_) rfl (by kernel_rfl) (by kernel_rfl) (by kernel_rfl) (by kernel_rfl) (fun _ _ _ h => h) (Or.inl ⟨by rfl, ?_⟩) hHeld ?_
  rotate_left 1
  · (intro w hSw; obtain ⟨h1, h2⟩ := hSw; have hc := h1.blk.cell; have hb := h2.cell; go_simp; try with_reducible rfl)
  try simp only [Act.put, List.getElem_toArray, List.getElem_cons_zero, List.getElem_cons_succ, List.setIfInBounds_toArray, List.set_cons_zero, List.set_cons_succ]
  refine wpAnyL_last (by kernel_rfl) rfl (by kernel_rfl) (fun K hK => ?_)
  obtain ⟨h1, h2⟩ := hHeld
  refine wp_put _ _ _ 58 rfl h1.map rfl kyI (fs.map (·.n)) (fun r' _ hy => HL.out r' hy) HLL.out Tryd.underlying58 f.n rfl (kyI_ok.2 HR.out) (I (fs.length : Int)) rfl (fun w9 hm9 hch9 hsz9 => ?_)
  refine hK.out _ _ ?_
  clear hK K
  refine NoPanic.normal ?_
  have HM9 : Hid (Mv Wb sTs (fun b => b = mb) w3.drew w9) := .of_chg h1.g hch9 (fun b hb => by rw [hb]; exact h1.lo.2.2.1) (fun b e xs hb hF => absurd hF.symm (h1.map.ne hb)) (fun b es c _ hF => hF)
  have HS9 : Hid (SM Wb w9 sb B mb h fa fw (.slice va fs.length vc) v fs (upd bs f.n (some fs.length)) l t c) := by
    have hno : ∀ b e xs, Blk w3.drew b e xs → ¬ (b = mb) := fun b e xs hb e => h1.map.ne hb e.symm
    refine ⟨HM9.out.G h1.g, h1.blk.chg hch9 (hno _ _ _ h1.blk), h1.box.chg hch9 (hno _ _ _ h1.box), h1.fin.chg hch9 (fun b hb => by obtain ⟨_, _, ys, hy⟩ := h1.fin.own hb; exact hno _ _ _ hy), ?_, h1.hp.chg hch9 (fun b hb e => ?_), h1.lo, h1.lv⟩
    · have := hm9
      rw [map_upd] at this
      exact this
    · rcases hb with rfl | hb
      · exact hno _ _ _ h1.hp.blk e
      · rcases h1.hp.sl with ⟨rfl, _⟩ | ⟨g, cap, rest, rfl, hg, _⟩
        · simp [Value.ownBlock] at hb
        · simp [Value.ownBlock] at hb; subst hb; exact hno _ _ _ hg e
  have HX9 : Hid (Blk w9 W.heap.size 72 [I f.n, I f.s, I f.e, I f.b]) := h2.chg hch9 (fun e => h1.map.ne h2 e.symm)
  have HM1 : Hid (Mv Wb sTs (fun b => b = mb) W w9) := (Mv.of_G HGW.out (HG.out.trans HG3.out.drew)).trans HM9.out
  clear h1 h2 hm9 hch9 hsz9 HST HK HB HG HG3 HM9
  go_wp2_with fail
  refine wp_region_noPanic ?_
  refine wp_region_L (S := (fun V => (∀ j, V.cell? ⟨sb, j, none⟩ = ([fa, fw, .slice va fs.length vc, .map (some mb), ptr h, I c] : List Value)[j]?) ∧ (∀ j, V.cell? ⟨W.heap.size, j, none⟩ = ([I f.n, I f.s, I f.e, I f.b] : List Value)[j]?))) 10 (by kernel_rfl) (⟨(HS9.out.G (G.drew (G.refl _))).blk.cell, (HX9.out.G (G.drew (G.refl _))).cell⟩) (fun hHeld => ?_)
  refine wpAnyL_take (i := 0) (v := ?_) rfl (by kernel_rfl) (by kernel_rfl) (by kernel_rfl) (by kernel_rfl) (fun _ _ _ h => h) (Or.inl ⟨by rfl, ?_⟩) hHeld ?_
  rotate_left 1
  · (intro w hSw; obtain ⟨q1, q2⟩ := hSw; go_simp; try with_reducible rfl)
  try simp only [Act.put, List.getElem_toArray, List.getElem_cons_zero, List.setIfInBounds_toArray]
  refine wpAnyL_take (i := 1) (v := ?_) rfl (by kernel_rfl) (by kernel_rfl) (by kernel_rfl) (by kernel_rfl) (fun _ _ _ h => h) (Or.inl ⟨by rfl, ?_⟩) hHeld ?_
  rotate_left 1
  · (intro w hSw; obtain ⟨q1, q2⟩ := hSw; go_simp; try with_reducible rfl)
  try simp only [Act.put, List.getElem_toArray, List.getElem_cons_zero, List.getElem_cons_succ, List.setIfInBounds_toArray, List.set_cons_zero, List.set_cons_succ]
  refine wpAnyL_take (i := 2) (v := ?_) rfl (by kernel_rfl) (by kernel_rfl) (by kernel_rfl) (by kernel_rfl) (fun _ _ _ h => h) (Or.inl ⟨by rfl, ?_⟩) hHeld ?_
  rotate_left 1
  · (intro w hSw; obtain ⟨q1, q2⟩ := hSw; go_simp; try with_reducible rfl)
  try simp only [Act.put, List.getElem_toArray, List.getElem_cons_zero, List.getElem_cons_succ, List.setIfInBounds_toArray, List.set_cons_zero, List.set_cons_succ]
  refine wpAnyL_take (i := 3) (v := ?_) rfl (by kernel_rfl) (by kernel_rfl) (by kernel_rfl) (by kernel_rfl) (fun _ _ _ h => h) (Or.inl ⟨by rfl, ?_⟩) hHeld ?_
  rotate_left 1
  · (intro w hSw; obtain ⟨q1, q2⟩ := hSw; go_simp; try with_reducible rfl)
  try simp only [Act.put, List.getElem_toArray, List.getElem_cons_zero, List.getElem_cons_succ, List.setIfInBounds_toArray, List.set_cons_zero, List.set_cons_succ]
  refine wpAnyL_take (i := 4) (v := ?_) rfl (by kernel_rfl) (by kernel_rfl) (by kernel_rfl) (by kernel_rfl) (fun _ _ _ h => h) (Or.inl ⟨by rfl, ?_⟩) hHeld ?_
  rotate_left 1
  · (intro w hSw; obtain ⟨q1, q2⟩ := hSw; go_simp; try with_reducible rfl)
  try simp only [Act.put, List.getElem_toArray, List.getElem_cons_zero, List.getElem_cons_succ, List.setIfInBounds_toArray, List.set_cons_zero, List.set_cons_succ]
  refine wpAnyL_take (i := 5) (v := ?_) rfl (by kernel_rfl) (by kernel_rfl) (by kernel_rfl) (by kernel_rfl) (fun _ _ _ h => h) (Or.inl ⟨by rfl, ?_⟩) hHeld ?_
  rotate_left 1
  · (intro w hSw; obtain ⟨q1, q2⟩ := hSw; go_simp; try with_reducible rfl)
  try simp only [Act.put, List.getElem_toArray, List.getElem_cons_zero, List.getElem_cons_succ, List.setIfInBounds_toArray, List.set_cons_zero, List.set_cons_succ]
  refine wpAnyL_one (i := 6) (by kernel_rfl) rfl (by kernel_rfl) (fun K hK => ?_)
  clear hHeld
  go_simp
  have HG6 : Hid (G w9 (w9.alloc (.cells #[I f.n, I f.s, I f.e, I f.b] 72)).drew) := ((G.refl w9).alloc _).drew
  have HC6 : Hid (∀ j u, ([I f.n, I f.s, I f.e, I f.b] : List Value)[j]? = some u → (w9.alloc (.cells #[I f.n, I f.s, I f.e, I f.b] 72)).drew.cell? ((⟨w9.heap.size, 0, none⟩ : Addr).add j) = some u) := cell_new w9 [I f.n, I f.s, I f.e, I f.b] 72
  generalize (w9.alloc (.cells #[I f.n, I f.s, I f.e, I f.b] 72)).drew = w6 at HG6 HC6 ⊢
  refine hK.out _ _ (⟨(HS9.out.G HG6.out).blk.cell, (HX9.out.G HG6.out).cell⟩) (fun hHeld => ?_)
  clear hK K
  try simp only [Act.put, List.getElem_toArray, List.getElem_cons_zero, List.getElem_cons_succ, List.setIfInBounds_toArray, List.set_cons_zero, List.set_cons_succ]
  refine wpAnyL_one (i := 7) (by kernel_rfl) rfl (by kernel_rfl) (fun K hK => ?_)
  clear hHeld
  obtain ⟨i0, hi0, hz0, hz1, hz2⟩ := info_f
  obtain ⟨v7, w7, hrun, hrow7, hap7⟩ := app_stay (P := Tryd.prog) w6 Wb.heap.size 73 73 72 i0 _ 4 32 Tryd.underlying73 hi0 hz0 hz1 hz2 rfl (by decide) (.slice va fs.length vc) fs.length (flF fs) (HS9.out.G HG6.out).fin ⟨w9.heap.size, 0, none⟩ 1 [I f.n, I f.s, I f.e, I f.b] rfl HC6.out (fun u hu => by simp at hu; rcases hu with rfl | rfl | rfl | rfl <;> rfl) HN1.out HN2.out (HS9.out.G HG6.out).g.size
  obtain ⟨g7, c7, rfl⟩ := own_block hrow7 (Nat.succ_pos _)
  have HAP := hide hap7
  have HRW := hide hrow7
  clear hap7 hrow7 hi0 hz0 hz1 hz2
  refine (if_pos rfl).mpr ?_
  refine wp_of_exec (exec_append _ _ 73 rfl (.slice va fs.length vc) (.slice (some ⟨w9.heap.size, 0, none⟩) 1 1) rfl rfl 73 rfl hrun) ?_
  clear hrun
  have HC7 := hide (app_chg HAP.out)
  have HNB : Hid (¬ ((Value.slice va fs.length vc).ownBlock = some sb)) := fun e => by
    obtain ⟨_, _, ys, hy⟩ := (HS9.out.G HG6.out).fin.own e
    exact hy.ne (HS9.out.G HG6.out).blk (by decide) rfl
  have HNX : Hid (¬ ((Value.slice va fs.length vc).ownBlock = some W.heap.size)) := fun e => HFX.out e
  refine hK.out _ _ (⟨((HS9.out.G HG6.out).blk.chg HC7.out HNB.out).cell, ((HX9.out.G HG6.out).chg HC7.out HNX.out).cell⟩) (fun hHeld => ?_)
  clear hK K
  try simp only [Act.put, List.getElem_toArray, List.getElem_cons_zero, List.getElem_cons_succ, List.setIfInBounds_toArray, List.set_cons_zero, List.set_cons_succ]
  refine wpAnyL_take2 9 (i := 8) (v := ?_) rfl (by kernel_rfl) (by kernel_rfl) (by kernel_rfl) (by kernel_rfl) (fun _ _ _ h => h) (Or.inl ⟨by rfl, ?_⟩) hHeld ?_
  rotate_left 1
  · (intro w hSw; (try dsimp only at hSw); go_simp; try with_reducible rfl)
  try simp only [Act.put, List.getElem_toArray, List.getElem_cons_zero, List.getElem_cons_succ, List.setIfInBounds_toArray, List.set_cons_zero, List.set_cons_succ]
  refine wpAnyL_take (i := 9) (v := ?_) rfl (by kernel_rfl) (by kernel_rfl) (by kernel_rfl) (by kernel_rfl) (fun _ _ _ h => h) (Or.inl ⟨by rfl, ?_⟩) hHeld ?_
  rotate_left 1
  · (intro w hSw; (try dsimp only at hSw); go_simp; try with_reducible rfl)
  try simp only [Act.put, List.getElem_toArray, List.getElem_cons_zero, List.getElem_cons_succ, List.setIfInBounds_toArray, List.set_cons_zero, List.set_cons_succ]
  refine wpAnyL_last (by kernel_rfl) rfl (by kernel_rfl) (fun K hK => ?_)
  clear hHeld
  have hc7 := ((HS9.out.G HG6.out).blk.chg HC7.out HNB.out).cell
  have hz7 := ((HS9.out.G HG6.out).blk.chg HC7.out HNB.out).frozen
  go_simp
  refine hK.out _ _ ?_
  clear hK K
  refine NoPanic.normal ?_
  have HOB : Hid (∀ b, (Value.slice (some ⟨g7, 0, none⟩) (fs.length + 1) c7).ownBlock = some b → b ≠ sb ∧ b ≠ B ∧ b ≠ mb ∧ ¬ hpB h v b) := fun b hb => by
    have k6 := HS9.out.G HG6.out
    rcases HAP.out with q | q
    · rw [q.1] at hb
      obtain ⟨_, _, ys, hy⟩ := k6.fin.own hb
      exact ⟨fun e => by subst e; exact hy.ne k6.blk (by decide) rfl, fun e => by subst e; exact hy.ne k6.box (by decide) rfl, fun e => k6.map.ne hy e.symm, k6.hp.off hy (by decide) (by decide)⟩
    · rw [q.1] at hb
      have h2 := Option.some.inj hb
      have l1 := k6.blk.lt
      have l2 := k6.box.lt
      have l3 := k6.map.lt
      refine ⟨by omega, by omega, by omega, fun e => ?_⟩
      have := k6.hp.lt e
      omega
  have HM7 : Hid (Mv Wb sTs (fun b => b = mb) w6 w7) := by
    have k6 := HS9.out.G HG6.out
    refine .of_chg k6.g HC7.out (fun b hb => (k6.fin.own hb).1) (fun b e xs hb hF => ?_) (fun b es c hb hF => ?_)
    · obtain ⟨_, _, ys, hy⟩ := k6.fin.own hF
      rw [(hb.type hy).1]; decide
    · obtain ⟨_, _, ys, hy⟩ := k6.fin.own hF
      exact (hy.nomap hb).elim
  have HM8 : Hid (Mv Wb sTs (fun b => b = mb) w7 (w7.setCell ⟨sb, 2, none⟩ (.slice (some ⟨g7, 0, none⟩) (fs.length + 1) c7))) := by
    have k6 := HS9.out.G HG6.out
    have hb7 := k6.blk.chg HC7.out HNB.out
    refine .of_chg (HM7.out.G k6.g) (chg_setCell (F := fun b => b = sb) _ _ (.inl rfl)) (fun b hb => by rw [hb]; exact k6.lo.1) (fun b e xs hb hF => ?_) (fun b es c hb hF => ?_)
    · subst hF; rw [(hb.type hb7).1]; decide
    · subst hF; exact (hb7.nomap hb).elim
  have HS8 : Hid (SM Wb (w7.setCell ⟨sb, 2, none⟩ (.slice (some ⟨g7, 0, none⟩) (fs.length + 1) c7)) sb B mb h fa fw (.slice (some ⟨g7, 0, none⟩) (fs.length + 1) c7) v (fs ++ [f]) (upd bs f.n (some fs.length)) l t c) := by
    have k6 := HS9.out.G HG6.out
    have hb7 := k6.blk.chg HC7.out HNB.out
    have hof : ∀ b, b ≠ sb → (w7.setCell ⟨sb, 2, none⟩ (.slice (some ⟨g7, 0, none⟩) (fs.length + 1) c7)).heap[b]? = w7.heap[b]? := fun b hb => Below.heap_setCell _ _ _ _ hb
    have hno : ∀ b e xs, Blk w6 b e xs → e ≠ 72 → ¬ ((Value.slice va fs.length vc).ownBlock = some b) := fun b e xs hb he q => by
      obtain ⟨_, _, ys, hy⟩ := k6.fin.own q
      exact he (hb.type hy).1
    have hx7 := k6.box.chg HC7.out (hno _ _ _ k6.box (by decide))
    have hp7 := k6.hp.chg HC7.out (fun b hb q => by
      obtain ⟨_, _, ys, hy⟩ := k6.fin.own q
      exact k6.hp.off hy (by decide) (by decide) hb)
    have hm7 := k6.map.chg HC7.out (fun q => by
      obtain ⟨_, _, ys, hy⟩ := k6.fin.own q
      exact k6.map.ne hy rfl)
    refine ⟨HM8.out.G (HM7.out.G k6.g), hb7.set 2 _, hx7.keep (hof _ (fun e => ?_)), ?_, hm7.keep (hof _ (k6.map.ne k6.blk)), ⟨hp7.blk.keep (hof _ (fun e => ?_)), hp7.sl.keep (fun b hb => hof _ (fun e => ?_))⟩, k6.lo, k6.lv⟩
    · exact k6.box.ne k6.blk (by decide) e
    · have hr := HRW.out
      have : Rw Wb.heap.size 72 4 w7 (.slice (some ⟨g7, 0, none⟩) (fs.length + 1) c7) (fs ++ [f]).length (flF (fs ++ [f])) := by
        rw [flF_snoc, List.length_append]; exact hr
      exact this.keep (fun b hb => hof _ (HOB.out b hb).1)
    · exact k6.hp.blk.ne k6.blk (by decide) e
    · exact k6.hp.off k6.blk (by decide) (by decide) (.inr (by rw [← e]; exact hb))
  have HMT : Hid (Mv Wb sTs (fun b => b = mb) W (w7.setCell ⟨sb, 2, none⟩ (.slice (some ⟨g7, 0, none⟩) (fs.length + 1) c7))) := ((HM1.out.trans (.of_G HS9.out.g HG6.out)).trans HM7.out).trans HM8.out
  clear HOB HM7 HM8 HAP HRW HC7 HNB HNX HC6 HG6 HX9 HS9 HM1 HFX HL HLL HN1 HN2
  generalize w7.setCell ⟨sb, 2, none⟩ (.slice (some ⟨g7, 0, none⟩) (fs.length + 1) c7) = w8 at HS8 HMT ⊢
  have hlen : ((fs ++ [f]).length : Int) = fs.length + 1 := by simp
  have HPU := hide (push_any (KF B sb (.slice (some ⟨g7, 0, none⟩) (fs.length + 1) c7) Wb.heap.size (fs ++ [f])) (fun a => 0 ≤ a ∧ a < ((fs ++ [f]).length : Int)) (.func (.func 37) #[] #[ptr B]) (ltF (fs ++ [f])) (ahF B sb _ Wb.heap.size (fs ++ [f])) h v l t fs.length w8 (fun W' q => HS8.out.kf.heap HS8.out.hp q) HS8.out.hp (fun x hx => by have := HD.out x hx; omega) ⟨by omega, by omega⟩ (by have := HFL.out; have := HLF.out; omega) (by rw [HT.out]; omega) (by rw [HT.out]; have := HFL.out; omega))
  have hc8 := HS8.out.blk.cell
  clear hlen
  go_wp2_with fail
  with_reducible refine HPU.out.mono ?_
  rintro e w10 ⟨rfl, v', l', hp', hperm, hhi, hch, hob⟩
  have HS10 := hide (HS8.out.heap hch hp' hob)
  have HM10 := hide (HMT.out.trans ((HS8.out.hpmv hch).mono (fun e q => by simp at q; rcases q with rfl | rfl <;> decide) (fun _ q => q.elim)))
  clear hc8 hp' hch hob HPU
  go_wp2_with fail
  go_end0
  rw [HT.out] at hperm HS10
  exact ⟨rfl, _, v', l', HS10.out, hperm, hhi (wo_F _) (hi_snoc HD.out HH.out), HM10.out⟩
set_option maxRecDepth 100000 in
set_option maxHeartbeats 2000000 in
theorem add_less (Wb W : World) (sb B mb h : Nat) (fa fw fv v : Value) (fs : List Fd) (bs : Int → Option Nat) (l : List It) (c : Nat) (f : Fd) (k : SM Wb W sb B mb h fa fw fv v fs bs l fs.length c) (hn : R64 f.n) (hL : ∀ n, bs n ≠ none → n ∈ fs.map (·.n)) (hD : ∀ x ∈ l, 0 ≤ x.1 ∧ x.1 < fs.length) (hll : l.length ≤ fs.length) (hfl : fs.length < 17179869183) (hh : Hp.HI (Hp.ah (ltF fs)) l) (i : Nat) (hk : bs f.n = some i) (hil : i < fs.length) (hgt : f.s < (fs[i]!).s) :
    Calls Tryd.prog 38 #[ptr sb, .agg #[I f.n, I f.s, I f.e, I f.b]] W fun e W' => e = .returned (.tuple #[]) ∧ ∃ fv' v' l', SM Wb W' sb B mb h fa fw fv' v' (fs ++ [f]) (upd bs f.n (some fs.length)) l' ((fs.length : Int) + 1) c ∧ l'.Perm (((fs.length : Int), (fs.length : Int)) :: l) ∧ Hp.HI (Hp.ah (ltF (fs ++ [f]))) l' ∧ Mv Wb sTs (fun b => b = mb) W W' := by
  obtain ⟨x, hx⟩ : ∃ x, fs[i]? = some x := ⟨_, List.getElem?_eq_getElem hil⟩
  have ex : fs[i]! = x := by simp [hx]
  obtain ⟨g, cap, rfl, -, -, -, -, -⟩ := fin_at k.fin hx
  obtain ⟨t, ht⟩ : ∃ t : Int, t = fs.length := ⟨_, rfl⟩
  rw [← ht] at k
  have k1 := k.G ((G.refl W).alloc (.cells #[I f.n, I f.s, I f.e, I f.b] 72))
  have HFX : Hid ((Value.slice (some ⟨g, 0, none⟩) fs.length cap).ownBlock ≠ some W.heap.size) := fun e => Nat.lt_irrefl _ (k.fin.own e).2.1
  have hl := k1.map.lookOkN kyI Tryd.underlying58 Tryd.zeroValue3 (kyI_ok.2 hn)
  simp only [hk] at hl
  rw [ex] at hgt
  obtain ⟨g9, cap9, hva, hg, x1, x2, x3, x4⟩ := fin_at k1.fin hx
  obtain ⟨rfl, rfl⟩ : g = g9 ∧ cap = cap9 := by simp at hva; exact hva
  have hI : (i : Int) < fs.length := by omega
  have hd : decide (x.s ≤ f.s) = false := decide_eq_false (by omega)
  clear hva hx ex hgt hil
  have hc := k1.blk.cell
  have hB := (Blk.new W [I f.n, I f.s, I f.e, I f.b] 72).cell
  have HK := hide k1
  have HB := hide (Blk.new W [I f.n, I f.s, I f.e, I f.b] 72)
  have HG := hide ((G.refl W).alloc (.cells #[I f.n, I f.s, I f.e, I f.b] 72))
  have HGW := hide k.g
  have HL : Hid (∀ n, (bs n).map (fun (i : Nat) => I (i : Int)) ≠ none → n ∈ fs.map (·.n)) := fun n q => hL n (fun e => q (by rw [e]; rfl))
  have HLL : Hid ((fs.map (·.n)).length < maxLen) := by
    show _ < _
    rw [List.length_map]
    exact Nat.lt_trans hfl (of_decide_eq_true (by kernel_rfl))
  have HN1 : Hid (fs.length + 1 ≤ maxLen) := Nat.le_trans (Nat.succ_le_of_lt hfl) (of_decide_eq_true (by kernel_rfl))
  have HN2 : Hid ((fs.length + 1) * 32 ≤ 140737488355328) := by show _ ≤ _; omega
  have HR := hide hn
  have HD := hide hD
  have HH := hide hh
  have HFL := hide hfl
  have HLF := hide hll
  have HT := hide ht
  clear k k1 hn hL hfl hD hh hll ht
  go_enter Tryd.func38, Tryd.ntmps38
  go_wp2_with fail
  go_quiet (fail)
  go_wp2_with fail
  go_quiet (fail)
  go_wp2_with fail
  generalize hw3 : World.drewN (W.alloc (.cells #[I f.n, I f.s, I f.e, I f.b] 72)) _ = w3
  have HG3 : Hid (G (W.alloc (.cells #[I f.n, I f.s, I f.e, I f.b] 72)) w3) := by rw [← hw3]; exact g_drewN _ _
  clear hw3 hl hc hB x1 x2 x3 x4 hd hI hg
  have HST : Hid ((fun V => SM Wb V sb B mb h fa fw (.slice (some ⟨g, 0, none⟩) fs.length cap) v fs bs l t c ∧ Blk V W.heap.size 72 [I f.n, I f.s, I f.e, I f.b]) w3.drew) := ⟨HK.out.G HG3.out.drew, HB.out.G HG3.out.drew⟩
  refine wp_region_noPanic ?_
  refine wp_region_L (S := (fun V => SM Wb V sb B mb h fa fw (.slice (some ⟨g, 0, none⟩) fs.length cap) v fs bs l t c ∧ Blk V W.heap.size 72 [I f.n, I f.s, I f.e, I f.b])) 7 (by kernel_rfl) (HST.out) (fun hHeld => ?_)
  refine wpAnyL_take (i := 0) (v := ?_) rfl (by kernel_rfl) (by kernel_rfl) (by kernel_rfl) (by kernel_rfl) (fun _ _ _ h => h) (Or.inl ⟨by rfl, ?_⟩) hHeld ?_
  rotate_left 1
  · (intro w hSw; obtain ⟨h1, h2⟩ := hSw; have hc := h1.blk.cell; have hb := h2.cell; go_simp; try with_reducible rfl)
  try simp only [Act.put, List.getElem_toArray, List.getElem_cons_zero, List.setIfInBounds_toArray, List.set_cons_zero, List.set_cons_succ]
  refine wpAnyL_take (i := 1) (v := ?_) rfl (by kernel_rfl) (by kernel_rfl) (by kernel_rfl) (by kernel_rfl) (fun _ _ _ h => h) (Or.inl ⟨by rfl, ?_⟩) hHeld ?_
  rotate_left 1
  · (intro w hSw; obtain ⟨h1, h2⟩ := hSw; have hc := h1.blk.cell; have hb := h2.cell; go_simp; try with_reducible rfl)
  try simp only [Act.put, List.getElem_toArray, List.getElem_cons_zero, List.getElem_cons_succ, List.setIfInBounds_toArray, List.set_cons_zero, List.set_cons_succ]
  refine wpAnyL_take (i := 2) (v := ?_) rfl (by kernel_rfl) (by kernel_rfl) (by kernel_rfl) (by kernel_rfl) (fun _ _ _ h => h) (Or.inl ⟨by rfl, ?_⟩) hHeld ?_
  rotate_left 1
  · (intro w hSw; obtain ⟨h1, h2⟩ := hSw; have hc := h1.blk.cell; have hb := h2.cell; go_simp; try with_reducible rfl)
  try simp only [Act.put, List.getElem_toArray, List.getElem_cons_zero, List.getElem_cons_succ, List.setIfInBounds_toArray, List.set_cons_zero, List.set_cons_succ]
  refine wpAnyL_take (i := 3) (v := ?_) rfl (by kernel_rfl) (by kernel_rfl) (by kernel_rfl) (by kernel_rfl) (fun _ _ _ h => h) (Or.inl ⟨by rfl, ?_⟩) hHeld ?_
  rotate_left 1
  · (intro w hSw; obtain ⟨h1, h2⟩ := hSw; have hc := h1.blk.cell; have hb := h2.cell; go_simp; try with_reducible rfl)
  try simp only [Act.put, List.getElem_toArray, List.getElem_cons_zero, List.getElem_cons_succ, List.setIfInBounds_toArray, List.set_cons_zero, List.set_cons_succ]
  refine wpAnyL_take (i := 4) (v := ?_) rfl (by kernel_rfl) (by kernel_rfl) (by kernel_rfl) (by kernel_rfl) (fun _ _ _ h => h) (Or.inl ⟨by rfl, ?_⟩) hHeld ?_
  rotate_left 1
  · (intro w hSw; obtain ⟨h1, h2⟩ := hSw; have hc := h1.blk.cell; have hb := h2.cell; go_simp; try with_reducible rfl)
  try simp only [Act.put, List.getElem_toArray, List.getElem_cons_zero, List.getElem_cons_succ, List.setIfInBounds_toArray, List.set_cons_zero, List.set_cons_succ]
  refine wpAnyL_take (i := 5) (v := ?_) rfl (by kernel_rfl) (by kernel_rfl) (by kernel_rfl) (by kernel_rfl) (fun _ _ _ h => h) (Or.inl ⟨by rfl, ?_⟩) hHeld ?_
  rotate_left 1
  · (intro w hSw; obtain ⟨h1, h2⟩ := hSw; have hc := h1.blk.cell; have hb := h2.cell; go_simp; try with_reducible rfl)
  try simp only [Act.put, List.getElem_toArray, List.getElem_cons_zero, List.getElem_cons_succ, List.setIfInBounds_toArray, List.set_cons_zero, List.set_cons_succ]
  refine wpAnyL_take (i := 6) (v := ?_) rfl (by kernel_rfl) (by kernel_rfl) (by kernel_rfl) (by kernel_rfl) (fun _ _ _ h => h) (Or.inl ⟨by rfl, ?_⟩) hHeld ?_
  rotate_left 1
  · (intro w hSw; obtain ⟨h1, h2⟩ := hSw; have hc := h1.blk.cell; have hb := h2.cell; go_simp; try with_reducible rfl)
  try simp only [Act.put, List.getElem_toArray, List.getElem_cons_zero, List.getElem_cons_succ, List.setIfInBounds_toArray, List.set_cons_zero, List.set_cons_succ]
  refine wpAnyL_last (by kernel_rfl) rfl (by kernel_rfl) (fun K hK => ?_)
  obtain ⟨h1, h2⟩ := hHeld
  refine wp_put _ _ _ 58 rfl h1.map rfl kyI (fs.map (·.n)) (fun r' _ hy => HL.out r' hy) HLL.out Tryd.underlying58 f.n rfl (kyI_ok.2 HR.out) (I (fs.length : Int)) rfl (fun w9 hm9 hch9 hsz9 => ?_)
  refine hK.out _ _ ?_
  clear hK K
  refine NoPanic.normal ?_
  have HM9 : Hid (Mv Wb sTs (fun b => b = mb) w3.drew w9) := .of_chg h1.g hch9 (fun b hb => by rw [hb]; exact h1.lo.2.2.1) (fun b e xs hb hF => absurd hF.symm (h1.map.ne hb)) (fun b es c _ hF => hF)
  have HS9 : Hid (SM Wb w9 sb B mb h fa fw (.slice (some ⟨g, 0, none⟩) fs.length cap) v fs (upd bs f.n (some fs.length)) l t c) := by
    have hno : ∀ b e xs, Blk w3.drew b e xs → ¬ (b = mb) := fun b e xs hb e => h1.map.ne hb e.symm
    refine ⟨HM9.out.G h1.g, h1.blk.chg hch9 (hno _ _ _ h1.blk), h1.box.chg hch9 (hno _ _ _ h1.box), h1.fin.chg hch9 (fun b hb => by obtain ⟨_, _, ys, hy⟩ := h1.fin.own hb; exact hno _ _ _ hy), ?_, h1.hp.chg hch9 (fun b hb e => ?_), h1.lo, h1.lv⟩
    · have := hm9
      rw [map_upd] at this
      exact this
    · rcases hb with rfl | hb
      · exact hno _ _ _ h1.hp.blk e
      · rcases h1.hp.sl with ⟨rfl, _⟩ | ⟨g, cap, rest, rfl, hg, _⟩
        · simp [Value.ownBlock] at hb
        · simp [Value.ownBlock] at hb; subst hb; exact hno _ _ _ hg e
  have HX9 : Hid (Blk w9 W.heap.size 72 [I f.n, I f.s, I f.e, I f.b]) := h2.chg hch9 (fun e => h1.map.ne h2 e.symm)
  have HM1 : Hid (Mv Wb sTs (fun b => b = mb) W w9) := (Mv.of_G HGW.out (HG.out.trans HG3.out.drew)).trans HM9.out
  clear h1 h2 hm9 hch9 hsz9 HST HK HB HG HG3 HM9
  go_wp2_with fail
  refine wp_region_noPanic ?_
  refine wp_region_L (S := (fun V => (∀ j, V.cell? ⟨sb, j, none⟩ = ([fa, fw, .slice (some ⟨g, 0, none⟩) fs.length cap, .map (some mb), ptr h, I c] : List Value)[j]?) ∧ (∀ j, V.cell? ⟨W.heap.size, j, none⟩ = ([I f.n, I f.s, I f.e, I f.b] : List Value)[j]?))) 10 (by kernel_rfl) (⟨(HS9.out.G (G.drew (G.refl _))).blk.cell, (HX9.out.G (G.drew (G.refl _))).cell⟩) (fun hHeld => ?_)
  refine wpAnyL_take (i := 0) (v := ?_) rfl (by kernel_rfl) (by kernel_rfl) (by kernel_rfl) (by kernel_rfl) (fun _ _ _ h => h) (Or.inl ⟨by rfl, ?_⟩) hHeld ?_
  rotate_left 1
  · (intro w hSw; obtain ⟨q1, q2⟩ := hSw; go_simp; try with_reducible rfl)
  try simp only [Act.put, List.getElem_toArray, List.getElem_cons_zero, List.setIfInBounds_toArray]
  refine wpAnyL_take (i := 1) (v := ?_) rfl (by kernel_rfl) (by kernel_rfl) (by kernel_rfl) (by kernel_rfl) (fun _ _ _ h => h) (Or.inl ⟨by rfl, ?_⟩) hHeld ?_
  rotate_left 1
  · (intro w hSw; obtain ⟨q1, q2⟩ := hSw; go_simp; try with_reducible rfl)
  try simp only [Act.put, List.getElem_toArray, List.getElem_cons_zero, List.getElem_cons_succ, List.setIfInBounds_toArray, List.set_cons_zero, List.set_cons_succ]
  refine wpAnyL_take (i := 2) (v := ?_) rfl (by kernel_rfl) (by kernel_rfl) (by kernel_rfl) (by kernel_rfl) (fun _ _ _ h => h) (Or.inl ⟨by rfl, ?_⟩) hHeld ?_
  rotate_left 1
  · (intro w hSw; obtain ⟨q1, q2⟩ := hSw; go_simp; try with_reducible rfl)
  try simp only [Act.put, List.getElem_toArray, List.getElem_cons_zero, List.getElem_cons_succ, List.setIfInBounds_toArray, List.set_cons_zero, List.set_cons_succ]
  refine wpAnyL_take (i := 3) (v := ?_) rfl (by kernel_rfl) (by kernel_rfl) (by kernel_rfl) (by kernel_rfl) (fun _ _ _ h => h) (Or.inl ⟨by rfl, ?_⟩) hHeld ?_
  rotate_left 1
  · (intro w hSw; obtain ⟨q1, q2⟩ := hSw; go_simp; try with_reducible rfl)
  try simp only [Act.put, List.getElem_toArray, List.getElem_cons_zero, List.getElem_cons_succ, List.setIfInBounds_toArray, List.set_cons_zero, List.set_cons_succ]
  refine wpAnyL_take (i := 4) (v := ?_) rfl (by kernel_rfl) (by kernel_rfl) (by kernel_rfl) (by kernel_rfl) (fun _ _ _ h => h) (Or.inl ⟨by rfl, ?_⟩) hHeld ?_
  rotate_left 1
  · (intro w hSw; obtain ⟨q1, q2⟩ := hSw; go_simp; try with_reducible rfl)
  try simp only [Act.put, List.getElem_toArray, List.getElem_cons_zero, List.getElem_cons_succ, List.setIfInBounds_toArray, List.set_cons_zero, List.set_cons_succ]
  refine wpAnyL_take (i := 5) (v := ?_) rfl (by kernel_rfl) (by kernel_rfl) (by kernel_rfl) (by kernel_rfl) (fun _ _ _ h => h) (Or.inl ⟨by rfl, ?_⟩) hHeld ?_
  rotate_left 1
  · (intro w hSw; obtain ⟨q1, q2⟩ := hSw; go_simp; try with_reducible rfl)
  try simp only [Act.put, List.getElem_toArray, List.getElem_cons_zero, List.getElem_cons_succ, List.setIfInBounds_toArray, List.set_cons_zero, List.set_cons_succ]
  refine wpAnyL_one (i := 6) (by kernel_rfl) rfl (by kernel_rfl) (fun K hK => ?_)
  clear hHeld
  go_simp
  have HG6 : Hid (G w9 (w9.alloc (.cells #[I f.n, I f.s, I f.e, I f.b] 72)).drew) := ((G.refl w9).alloc _).drew
  have HC6 : Hid (∀ j u, ([I f.n, I f.s, I f.e, I f.b] : List Value)[j]? = some u → (w9.alloc (.cells #[I f.n, I f.s, I f.e, I f.b] 72)).drew.cell? ((⟨w9.heap.size, 0, none⟩ : Addr).add j) = some u) := cell_new w9 [I f.n, I f.s, I f.e, I f.b] 72
  generalize (w9.alloc (.cells #[I f.n, I f.s, I f.e, I f.b] 72)).drew = w6 at HG6 HC6 ⊢
  refine hK.out _ _ (⟨(HS9.out.G HG6.out).blk.cell, (HX9.out.G HG6.out).cell⟩) (fun hHeld => ?_)
  clear hK K
  try simp only [Act.put, List.getElem_toArray, List.getElem_cons_zero, List.getElem_cons_succ, List.setIfInBounds_toArray, List.set_cons_zero, List.set_cons_succ]
  refine wpAnyL_one (i := 7) (by kernel_rfl) rfl (by kernel_rfl) (fun K hK => ?_)
  clear hHeld
  obtain ⟨i0, hi0, hz0, hz1, hz2⟩ := info_f
  obtain ⟨v7, w7, hrun, hrow7, hap7⟩ := app_stay (P := Tryd.prog) w6 Wb.heap.size 73 73 72 i0 _ 4 32 Tryd.underlying73 hi0 hz0 hz1 hz2 rfl (by decide) (.slice (some ⟨g, 0, none⟩) fs.length cap) fs.length (flF fs) (HS9.out.G HG6.out).fin ⟨w9.heap.size, 0, none⟩ 1 [I f.n, I f.s, I f.e, I f.b] rfl HC6.out (fun u hu => by simp at hu; rcases hu with rfl | rfl | rfl | rfl <;> rfl) HN1.out HN2.out (HS9.out.G HG6.out).g.size
  obtain ⟨g7, c7, rfl⟩ := own_block hrow7 (Nat.succ_pos _)
  have HAP := hide hap7
  have HRW := hide hrow7
  clear hap7 hrow7 hi0 hz0 hz1 hz2
  refine (if_pos rfl).mpr ?_
  refine wp_of_exec (exec_append _ _ 73 rfl (.slice (some ⟨g, 0, none⟩) fs.length cap) (.slice (some ⟨w9.heap.size, 0, none⟩) 1 1) rfl rfl 73 rfl hrun) ?_
  clear hrun
  have HC7 := hide (app_chg HAP.out)
  have HNB : Hid (¬ ((Value.slice (some ⟨g, 0, none⟩) fs.length cap).ownBlock = some sb)) := fun e => by
    obtain ⟨_, _, ys, hy⟩ := (HS9.out.G HG6.out).fin.own e
    exact hy.ne (HS9.out.G HG6.out).blk (by decide) rfl
  have HNX : Hid (¬ ((Value.slice (some ⟨g, 0, none⟩) fs.length cap).ownBlock = some W.heap.size)) := fun e => HFX.out e
  refine hK.out _ _ (⟨((HS9.out.G HG6.out).blk.chg HC7.out HNB.out).cell, ((HX9.out.G HG6.out).chg HC7.out HNX.out).cell⟩) (fun hHeld => ?_)
  clear hK K
  try simp only [Act.put, List.getElem_toArray, List.getElem_cons_zero, List.getElem_cons_succ, List.setIfInBounds_toArray, List.set_cons_zero, List.set_cons_succ]
  refine wpAnyL_take2 9 (i := 8) (v := ?_) rfl (by kernel_rfl) (by kernel_rfl) (by kernel_rfl) (by kernel_rfl) (fun _ _ _ h => h) (Or.inl ⟨by rfl, ?_⟩) hHeld ?_
  rotate_left 1
  · (intro w hSw; (try dsimp only at hSw); go_simp; try with_reducible rfl)
  try simp only [Act.put, List.getElem_toArray, List.getElem_cons_zero, List.getElem_cons_succ, List.setIfInBounds_toArray, List.set_cons_zero, List.set_cons_succ]
  refine wpAnyL_take (i := 9) (v := ?_) rfl (by kernel_rfl) (by kernel_rfl) (by kernel_rfl) (by kernel_rfl) (fun _ _ _ h => h) (Or.inl ⟨by rfl, ?_⟩) hHeld ?_
  rotate_left 1
  · (intro w hSw; (try dsimp only at hSw); go_simp; try with_reducible rfl)
  try simp only [Act.put, List.getElem_toArray, List.getElem_cons_zero, List.getElem_cons_succ, List.setIfInBounds_toArray, List.set_cons_zero, List.set_cons_succ]
  refine wpAnyL_last (by kernel_rfl) rfl (by kernel_rfl) (fun K hK => ?_)
  clear hHeld
  have hc7 := ((HS9.out.G HG6.out).blk.chg HC7.out HNB.out).cell
  have hz7 := ((HS9.out.G HG6.out).blk.chg HC7.out HNB.out).frozen
  go_simp
  refine hK.out _ _ ?_
  clear hK K
  refine NoPanic.normal ?_
  have HOB : Hid (∀ b, (Value.slice (some ⟨g7, 0, none⟩) (fs.length + 1) c7).ownBlock = some b → b ≠ sb ∧ b ≠ B ∧ b ≠ mb ∧ ¬ hpB h v b) := fun b hb => by
    have k6 := HS9.out.G HG6.out
    rcases HAP.out with q | q
    · rw [q.1] at hb
      obtain ⟨_, _, ys, hy⟩ := k6.fin.own hb
      exact ⟨fun e => by subst e; exact hy.ne k6.blk (by decide) rfl, fun e => by subst e; exact hy.ne k6.box (by decide) rfl, fun e => k6.map.ne hy e.symm, k6.hp.off hy (by decide) (by decide)⟩
    · rw [q.1] at hb
      have h2 := Option.some.inj hb
      have l1 := k6.blk.lt
      have l2 := k6.box.lt
      have l3 := k6.map.lt
      refine ⟨by omega, by omega, by omega, fun e => ?_⟩
      have := k6.hp.lt e
      omega
  have HM7 : Hid (Mv Wb sTs (fun b => b = mb) w6 w7) := by
    have k6 := HS9.out.G HG6.out
    refine .of_chg k6.g HC7.out (fun b hb => (k6.fin.own hb).1) (fun b e xs hb hF => ?_) (fun b es c hb hF => ?_)
    · obtain ⟨_, _, ys, hy⟩ := k6.fin.own hF
      rw [(hb.type hy).1]; decide
    · obtain ⟨_, _, ys, hy⟩ := k6.fin.own hF
      exact (hy.nomap hb).elim
  have HM8 : Hid (Mv Wb sTs (fun b => b = mb) w7 (w7.setCell ⟨sb, 2, none⟩ (.slice (some ⟨g7, 0, none⟩) (fs.length + 1) c7))) := by
    have k6 := HS9.out.G HG6.out
    have hb7 := k6.blk.chg HC7.out HNB.out
    refine .of_chg (HM7.out.G k6.g) (chg_setCell (F := fun b => b = sb) _ _ (.inl rfl)) (fun b hb => by rw [hb]; exact k6.lo.1) (fun b e xs hb hF => ?_) (fun b es c hb hF => ?_)
    · subst hF; rw [(hb.type hb7).1]; decide
    · subst hF; exact (hb7.nomap hb).elim
  have HS8 : Hid (SM Wb (w7.setCell ⟨sb, 2, none⟩ (.slice (some ⟨g7, 0, none⟩) (fs.length + 1) c7)) sb B mb h fa fw (.slice (some ⟨g7, 0, none⟩) (fs.length + 1) c7) v (fs ++ [f]) (upd bs f.n (some fs.length)) l t c) := by
    have k6 := HS9.out.G HG6.out
    have hb7 := k6.blk.chg HC7.out HNB.out
    have hof : ∀ b, b ≠ sb → (w7.setCell ⟨sb, 2, none⟩ (.slice (some ⟨g7, 0, none⟩) (fs.length + 1) c7)).heap[b]? = w7.heap[b]? := fun b hb => Below.heap_setCell _ _ _ _ hb
    have hno : ∀ b e xs, Blk w6 b e xs → e ≠ 72 → ¬ ((Value.slice (some ⟨g, 0, none⟩) fs.length cap).ownBlock = some b) := fun b e xs hb he q => by
      obtain ⟨_, _, ys, hy⟩ := k6.fin.own q
      exact he (hb.type hy).1
    have hx7 := k6.box.chg HC7.out (hno _ _ _ k6.box (by decide))
    have hp7 := k6.hp.chg HC7.out (fun b hb q => by
      obtain ⟨_, _, ys, hy⟩ := k6.fin.own q
      exact k6.hp.off hy (by decide) (by decide) hb)
    have hm7 := k6.map.chg HC7.out (fun q => by
      obtain ⟨_, _, ys, hy⟩ := k6.fin.own q
      exact k6.map.ne hy rfl)
    refine ⟨HM8.out.G (HM7.out.G k6.g), hb7.set 2 _, hx7.keep (hof _ (fun e => ?_)), ?_, hm7.keep (hof _ (k6.map.ne k6.blk)), ⟨hp7.blk.keep (hof _ (fun e => ?_)), hp7.sl.keep (fun b hb => hof _ (fun e => ?_))⟩, k6.lo, k6.lv⟩
    · exact k6.box.ne k6.blk (by decide) e
    · have hr := HRW.out
      have : Rw Wb.heap.size 72 4 w7 (.slice (some ⟨g7, 0, none⟩) (fs.length + 1) c7) (fs ++ [f]).length (flF (fs ++ [f])) := by
        rw [flF_snoc, List.length_append]; exact hr
      exact this.keep (fun b hb => hof _ (HOB.out b hb).1)
    · exact k6.hp.blk.ne k6.blk (by decide) e
    · exact k6.hp.off k6.blk (by decide) (by decide) (.inr (by rw [← e]; exact hb))
  have HMT : Hid (Mv Wb sTs (fun b => b = mb) W (w7.setCell ⟨sb, 2, none⟩ (.slice (some ⟨g7, 0, none⟩) (fs.length + 1) c7))) := ((HM1.out.trans (.of_G HS9.out.g HG6.out)).trans HM7.out).trans HM8.out
  clear HOB HM7 HM8 HAP HRW HC7 HNB HNX HC6 HG6 HX9 HS9 HM1 HFX HL HLL HN1 HN2
  generalize w7.setCell ⟨sb, 2, none⟩ (.slice (some ⟨g7, 0, none⟩) (fs.length + 1) c7) = w8 at HS8 HMT ⊢
  have hlen : ((fs ++ [f]).length : Int) = fs.length + 1 := by simp
  have HPU := hide (push_any (KF B sb (.slice (some ⟨g7, 0, none⟩) (fs.length + 1) c7) Wb.heap.size (fs ++ [f])) (fun a => 0 ≤ a ∧ a < ((fs ++ [f]).length : Int)) (.func (.func 37) #[] #[ptr B]) (ltF (fs ++ [f])) (ahF B sb _ Wb.heap.size (fs ++ [f])) h v l t fs.length w8 (fun W' q => HS8.out.kf.heap HS8.out.hp q) HS8.out.hp (fun x hx => by have := HD.out x hx; omega) ⟨by omega, by omega⟩ (by have := HFL.out; have := HLF.out; omega) (by rw [HT.out]; omega) (by rw [HT.out]; have := HFL.out; omega))
  have hc8 := HS8.out.blk.cell
  clear hlen
  go_wp2_with fail
  with_reducible refine HPU.out.mono ?_
  rintro e w10 ⟨rfl, v', l', hp', hperm, hhi, hch, hob⟩
  have HS10 := hide (HS8.out.heap hch hp' hob)
  have HM10 := hide (HMT.out.trans ((HS8.out.hpmv hch).mono (fun e q => by simp at q; rcases q with rfl | rfl <;> decide) (fun _ q => q.elim)))
  clear hc8 hp' hch hob HPU
  go_wp2_with fail
  go_end0
  rw [HT.out] at hperm HS10
  exact ⟨rfl, _, v', l', HS10.out, hperm, hhi (wo_F _) (hi_snoc HD.out HH.out), HM10.out⟩
/-- One more find, if it is better. -/
theorem add_any (Wb W : World) (sb B mb h : Nat) (fa fw fv v : Value) (fs : List Fd) (bs : Int → Option Nat) (l : List It) (c : Nat) (f : Fd) (k : SM Wb W sb B mb h fa fw fv v fs bs l fs.length c) (hn : R64 f.n) (hi : ∀ n i, bs n = some i → i < fs.length) (hL : ∀ n, bs n ≠ none → n ∈ fs.map (·.n)) (hD : ∀ x ∈ l, 0 ≤ x.1 ∧ x.1 < fs.length) (hll : l.length ≤ fs.length) (hfl : fs.length < 17179869183) (hh : Hp.HI (Hp.ah (ltF fs)) l) :
    Calls Tryd.prog 38 #[ptr sb, .agg #[I f.n, I f.s, I f.e, I f.b]] W fun e W' => e = .returned (.tuple #[]) ∧ Mv Wb sTs (fun b => b = mb) W W' ∧
      ((keepB fs bs f = true ∧ SM Wb W' sb B mb h fa fw fv v fs bs l fs.length c) ∨
       (keepB fs bs f = false ∧ ∃ fv' v' l', SM Wb W' sb B mb h fa fw fv' v' (fs ++ [f]) (upd bs f.n (some fs.length)) l' ((fs.length : Int) + 1) c ∧ l'.Perm (((fs.length : Int), (fs.length : Int)) :: l) ∧ Hp.HI (Hp.ah (ltF (fs ++ [f]))) l')) := by
  cases hk : keepB fs bs f with
  | true =>
    refine (add_keep Wb W sb B mb h fa fw fv v fs bs l fs.length c f k hn hi hk).mono ?_
    rintro e W' ⟨rfl, k', hg⟩
    exact ⟨rfl, .of_G k.g hg, .inl ⟨rfl, k'⟩⟩
  | false =>
    have : Calls Tryd.prog 38 #[ptr sb, .agg #[I f.n, I f.s, I f.e, I f.b]] W fun e W' => e = .returned (.tuple #[]) ∧ ∃ fv' v' l', SM Wb W' sb B mb h fa fw fv' v' (fs ++ [f]) (upd bs f.n (some fs.length)) l' ((fs.length : Int) + 1) c ∧ l'.Perm (((fs.length : Int), (fs.length : Int)) :: l) ∧ Hp.HI (Hp.ah (ltF (fs ++ [f]))) l' ∧ Mv Wb sTs (fun b => b = mb) W W' := by
      cases hb : bs f.n with
      | none => exact add_none Wb W sb B mb h fa fw fv v fs bs l c f k hn hL hD hll hfl hh hb
      | some i =>
        refine add_less Wb W sb B mb h fa fw fv v fs bs l c f k hn hL hD hll hfl hh i hb (hi _ _ hb) ?_
        unfold keepB at hk
        rw [hb] at hk
        have := of_decide_eq_false hk
        omega
    refine this.mono ?_
    rintro e W' ⟨rfl, fv', v', l', k', hp, hh', hm⟩
    exact ⟨rfl, hm, .inr ⟨rfl, fv', v', l', k', hp, hh'⟩⟩
end Go.Proofs.YtemkilffagjmcaaDoor
