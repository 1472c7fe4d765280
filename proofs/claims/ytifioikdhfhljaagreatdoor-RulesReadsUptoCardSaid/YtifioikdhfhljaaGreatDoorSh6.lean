/- Graphs: things and fans in memory. -/
import Derived.Test.YtifioikdhfhljaaGreatDoorSh5
namespace Go.Proofs.YtifioikdhfhljaaGreatDoor
open Go.RowKit Go.Maps

theorem wp_put {α : Type} [DecidableEq α] {enc : α → Value} {k : TypeId} {b : Nat} {g : α → Option Value} {w : World} {op : Oper} {a : Act} {K : Act → World → Prop} {Q : Exit → Act → World → Prop}
    (m x v : Operand) (t : TypeId) (hop : op.op = Op.mapUpdate t m x v) (h : Mp enc k w b g) (hm : a.eval m = .map (some b)) (Y : Ky enc k) (L : List α) (hL : ∀ a, KyOk enc k a → g a ≠ none → a ∈ L) (hl : L.length < maxLen)
    {e : TypeId} (ht : Tryz.prog.underlying t = some (.map k e)) (key : α) (hx : a.eval x = enc key) (ha : KyOk enc k key) (val : Value) (hv : a.eval v = val)
    (hK : ∀ w', Mp enc k w' b (upd g key (some val)) → Chg (fun k => k = b) w w' → w'.heap.size = w.heap.size → K (a.put op.dst undef) w') : op.wp Tryz.prog a w K Q := by
  obtain ⟨w', hrun, r1, r2, r3⟩ := h.put Y L hL hl ht ha val
  unfold Oper.wp
  simp [execOp, hop, hm, hx, hv, hrun, Result.andThen]
  exact hK w' r1 r2 r3
/-- Things by their ids, in a map: a node is an edge without ends. -/
def Nd.ed (n : Nd) : Ed := ⟨n.id, n.lb, 0, 0, n.ps⟩
def thV (w : World) (lo : Nat) (t : Ed) (u : Value) : Prop := ∃ v, u = .agg #[.string t.ty, I t.fr, I t.to, v] ∧ Sw eP 101 w v t.ps ∧ ∀ k, v.ownBlock = some k → lo ≤ k
structure TbM (lo : Nat) (w : World) (m : Nat) (L : List Ed) (g : Int → Option Value) : Prop where
  mp : Mp (fun n : Int => I n) 2 w m g
  key : ∀ a, g a ≠ none → ∃ t ∈ L, t.id = a
  th : ∀ t ∈ L, ∃ u, g t.id = some u ∧ thV w lo t u
theorem thV.keep {w w' : World} {lo : Nat} {t : Ed} {u : Value} (h : thV w lo t u) (hk : ∀ k, lo ≤ k → k < w.heap.size → (∃ ty xs, Blk w k ty xs) → w'.heap[k]? = w.heap[k]?) : thV w' lo t u := by
  obtain ⟨v, e, h1, h2⟩ := h
  refine ⟨v, e, h1.keep fun b hb => hk b (h2 b hb) (h1.lt hb) ?_, h2⟩
  rcases h1 with ⟨rfl, _⟩ | ⟨g, cap, rest, rfl, hbl, _⟩
  · simp [Value.ownBlock] at hb
  · simp [Value.ownBlock] at hb; subst hb; exact ⟨_, _, hbl⟩
theorem TbM.G {lo : Nat} {w w' : World} {m : Nat} {L : List Ed} {g : Int → Option Value} (h : TbM lo w m L g) (k : Go.Proofs.YtifioikdhfhljaaGreatDoor.G w w') : TbM lo w' m L g :=
  ⟨h.mp.G k, h.key, fun t ht => by
    obtain ⟨u, e, q⟩ := h.th t ht
    exact ⟨u, e, q.keep fun b _ hb _ => k.block b hb⟩⟩
theorem TbM.fx {lo : Nat} {w w' : World} {m : Nat} {L : List Ed} {g : Int → Option Value} {X M : List Nat} (h : TbM lo w m L g) (k : Fx X M w w') (hx : 101 ∉ X) (hm : m ∉ M) : TbM lo w' m L g :=
  ⟨h.mp.fx k hm, h.key, fun t ht => by
    obtain ⟨u, e, v, e2, h1, h2⟩ := h.th t ht
    exact ⟨u, e, v, e2, h1.fx k hx, h2⟩⟩
/-- What lies in blocks from lo on is as it was. -/
theorem TbM.keep {lo : Nat} {w w' : World} {m : Nat} {L : List Ed} {g : Int → Option Value} (h : TbM lo w m L g) (hm : lo ≤ m) (hk : ∀ k, lo ≤ k → k < w.heap.size → w'.heap[k]? = w.heap[k]?) : TbM lo w' m L g :=
  ⟨h.mp.keep (hk m hm h.mp.lt), h.key, fun t ht => by
    obtain ⟨u, e, q⟩ := h.th t ht
    exact ⟨u, e, q.keep fun b hb hl _ => hk b hb hl⟩⟩
theorem TbM.nil (lo : Nat) (w : World) : TbM lo (w.alloc (.map #[] 0)) w.heap.size [] (fun _ => none) := ⟨Mp.made w _ _, fun a h => absurd rfl h, fun t ht => by cases ht⟩
/-- One more. -/
theorem TbM.put {lo : Nat} {w w' : World} {m : Nat} {L : List Ed} {g : Int → Option Value} {t : Ed} {u : Value} (h : TbM lo w m L g) (hn : ∀ s ∈ L, s.id ≠ t.id) (hu : thV w lo t u) (hm : Mp (fun n : Int => I n) 2 w' m (upd g t.id (some u))) (hc : Chg (fun k => k = m) w w') : TbM lo w' m (L ++ [t]) (upd g t.id (some u)) := by
  have hk : ∀ k, k < w.heap.size → (∃ ty xs, Blk w k ty xs) → w'.heap[k]? = w.heap[k]? := fun k hk ⟨ty, xs, hb⟩ => hc.block k hk (fun e => h.mp.ne hb e.symm)
  refine ⟨hm, fun a ha => ?_, fun s hs => ?_⟩
  · by_cases e : a = t.id
    · exact ⟨t, by simp, e.symm⟩
    · rw [upd_other e] at ha
      obtain ⟨s, hs, e2⟩ := h.key a ha
      exact ⟨s, by simp [hs], e2⟩
  · rcases List.mem_append.1 hs with q | q
    · obtain ⟨u', e, q2⟩ := h.th s q
      exact ⟨u', by rw [upd_other (hn s q)]; exact e, q2.keep fun k _ hl hb => hk k hl hb⟩
    · obtain rfl : s = t := by simpa using q
      exact ⟨u, upd_same _ _ _, hu.keep fun k _ hl hb => hk k hl hb⟩
abbrev vOf (g : Int → Option Value) (a : Int) : Value := (g a).getD (.slice none 0 0)
/-- Rows of ids, by an id. -/
structure FanS (lo : Nat) (w : World) (b : Nat) (g : Int → Option Value) (F : Int → List Int) : Prop where
  mp : Mp (fun n : Int => I n) 2 w b g
  row : ∀ a, Sw eI 2 w (vOf g a) (F a)
  lob : ∀ a k, (vOf g a).ownBlock = some k → lo ≤ k
  dis : ∀ a a' k, a ≠ a' → (vOf g a).ownBlock = some k → (vOf g a').ownBlock ≠ some k
  key : ∀ a, g a ≠ none → F a ≠ []
  at_ : lo ≤ b
theorem FanS.keep {lo : Nat} {w w' : World} {b : Nat} {g : Int → Option Value} {F : Int → List Int} (h : FanS lo w b g F) (hb : w'.heap[b]? = w.heap[b]?) (hr : ∀ a k, (vOf g a).ownBlock = some k → w'.heap[k]? = w.heap[k]?) : FanS lo w' b g F :=
  ⟨h.mp.keep hb, fun a => (h.row a).keep (hr a), h.lob, h.dis, h.key, h.at_⟩
theorem FanS.keepLo {lo : Nat} {w w' : World} {b : Nat} {g : Int → Option Value} {F : Int → List Int} (h : FanS lo w b g F) (hk : ∀ k, lo ≤ k → k < w.heap.size → w'.heap[k]? = w.heap[k]?) : FanS lo w' b g F :=
  h.keep (hk b h.at_ h.mp.lt) (fun a k e => hk k (h.lob a k e) ((h.row a).lt e))
theorem FanS.nil (lo : Nat) (w : World) (hl : lo ≤ w.heap.size) : FanS lo (w.alloc (.map #[] 0)) w.heap.size (fun _ => none) (fun _ => []) :=
  ⟨Mp.made w _ _, fun _ => Sw.nil _ _ _, fun a k e => by simp [Value.ownBlock] at e, fun a a' k _ e => by simp [Value.ownBlock] at e, fun a h => absurd rfl h, hl⟩
/-- Two such, apart. -/
structure FanG (lo : Nat) (w : World) (b1 b2 : Nat) (g1 g2 : Int → Option Value) (F1 F2 : Int → List Int) : Prop where
  s1 : FanS lo w b1 g1 F1
  s2 : FanS lo w b2 g2 F2
  ne : b1 ≠ b2
  dis : ∀ a a' k, (vOf g1 a).ownBlock = some k → (vOf g2 a').ownBlock ≠ some k
theorem FanG.swap {lo : Nat} {w : World} {b1 b2 : Nat} {g1 g2 : Int → Option Value} {F1 F2 : Int → List Int} (h : FanG lo w b1 b2 g1 g2 F1 F2) : FanG lo w b2 b1 g2 g1 F2 F1 :=
  ⟨h.s2, h.s1, h.ne.symm, fun a a' k e q => h.dis a' a k q e⟩
theorem FanG.keepLo {lo : Nat} {w w' : World} {b1 b2 : Nat} {g1 g2 : Int → Option Value} {F1 F2 : Int → List Int} (h : FanG lo w b1 b2 g1 g2 F1 F2) (hk : ∀ k, lo ≤ k → k < w.heap.size → w'.heap[k]? = w.heap[k]?) : FanG lo w' b1 b2 g1 g2 F1 F2 :=
  ⟨h.s1.keepLo hk, h.s2.keepLo hk, h.ne, h.dis⟩
theorem FanG.G {lo : Nat} {w w' : World} {b1 b2 : Nat} {g1 g2 : Int → Option Value} {F1 F2 : Int → List Int} (h : FanG lo w b1 b2 g1 g2 F1 F2) (k : Go.Proofs.YtifioikdhfhljaaGreatDoor.G w w') : FanG lo w' b1 b2 g1 g2 F1 F2 := h.keepLo fun i _ hi => k.block i hi
theorem Sw.blkOf {α : Type} {E : Enc α} {ty : TypeId} {w : World} {v : Value} {l : List α} (h : Sw E ty w v l) {k : Nat} (e : v.ownBlock = some k) : ∃ xs, Blk w k ty xs := by
  rcases h with ⟨rfl, _⟩ | ⟨g, cap, rest, rfl, hb, _⟩
  · simp [Value.ownBlock] at e
  · simp [Value.ownBlock] at e; subst e; exact ⟨_, hb⟩
/-- An id more in one row: the append, then the map's store. -/
theorem FanG.push {W w : World} {b1 b2 : Nat} {g1 g2 : Int → Option Value} {F1 F2 : Int → List Int} (h : FanG W.heap.size w b1 b2 g1 g2 F1 F2) (hg : Go.Proofs.YtifioikdhfhljaaGreatDoor.G W w) (a x : Int) (hl : (F1 a).length ≤ 4000000000000) :
    ∃ oa oc a5 c5 w5, vOf g1 a = .slice oa (F1 a).length oc ∧ (Builtin.append_ #[73, 73] 73 #[.slice oa (F1 a).length oc, .slice (some ⟨w.heap.size, 0, none⟩) 1 1]).run Tryz.prog (w.alloc (.cells #[I x] 2)) = .ok (.slice a5 ((F1 a).length + 1) c5) w5 ∧ Go.Proofs.YtifioikdhfhljaaGreatDoor.G W w5 ∧
      Mp (fun n : Int => I n) 2 w5 b1 g1 ∧ Fx [2] [] w w5 ∧
      ∀ w9, Mp (fun n : Int => I n) 2 w9 b1 (upd g1 a (some (.slice a5 ((F1 a).length + 1) c5))) → Chg (fun k => k = b1) w5 w9 → FanG W.heap.size w9 b1 b2 (upd g1 a (some (.slice a5 ((F1 a).length + 1) c5))) g2 (upd F1 a (F1 a ++ [x])) F2 ∧ Go.Proofs.YtifioikdhfhljaaGreatDoor.G W w9 := by
  obtain ⟨i0, hi0, hz0, hz1, hz2⟩ := info_64
  have hA := (Go.Proofs.YtifioikdhfhljaaGreatDoor.G.refl w).alloc (.cells #[I x] 2)
  have hmx : (4000000000001 : Nat) ≤ maxLen := of_decide_eq_true (by kernel_rfl)
  have hr := h.s1.row a
  obtain ⟨oa, oc, hv⟩ := hr.form
  have hlit : Row eI.rel (w.alloc (.cells #[I x] 2)) (.slice (some ⟨w.heap.size, 0, none⟩) 1 1) [x] := Row.lit (E := eI) w 2 [x] 1 (by simp)
  obtain ⟨v', w5, q1, q2, q3, q4⟩ := app_row (P := Tryz.prog) (tr := 73) i0 _ 8 Tryz.underlying73 hi0 hz0 hz1 hz2 rfl (by decide) (hr.G hA) hlit (by simp; omega) (by simp; omega)
  obtain ⟨a5, c5, hv'⟩ := q2.form
  rw [List.length_append] at hv'
  obtain rfl : v' = .slice a5 ((F1 a).length + 1) c5 := hv'
  have hf : Fresh W (vOf g1 a) := fun k e => h.s1.lob a k e
  obtain ⟨f5, g5⟩ := hf.app (hg.trans hA) q3 q4
  have hold : ∀ k, k < w.heap.size → (vOf g1 a).ownBlock ≠ some k → w5.heap[k]? = w.heap[k]? := fun k hk hn => (q3.block k (Nat.lt_of_lt_of_le hk hA.size) hn).trans (hA.block k hk)
  have hfx : Fx [2] [] w w5 := (Fx.of_G hA).trans (Fx.own q3 (hr.G hA) (by simp))
  rw [hv] at q1
  refine ⟨oa, oc, a5, c5, w5, hv, q1, g5, h.s1.mp.fx hfx (by simp), hfx, fun w9 hm9 hc9 => ?_⟩
  have nb : ∀ k, (∃ ty xs, Blk w5 k ty xs) → k ≠ b1 := fun k ⟨ty, xs, hb⟩ e => (h.s1.mp.fx hfx (by simp)).ne hb e.symm
  have k9 : ∀ k, k < w5.heap.size → k ≠ b1 → w9.heap[k]? = w5.heap[k]? := fun k hk hn => hc9.block k hk hn
  have hsz : w.heap.size ≤ w5.heap.size := Nat.le_trans hA.size q3.size
  -- rows of others
  have keepRow : ∀ u l, Sw eI 2 w u l → (∀ k, u.ownBlock = some k → (vOf g1 a).ownBlock ≠ some k) → Sw eI 2 w9 u l := fun u l hs hd => by
    have h5 : Sw eI 2 w5 u l := hs.keep fun k hk => hold k (hs.lt hk) (hd k hk)
    exact h5.keep fun k hk => k9 k (h5.lt hk) (nb k (by obtain ⟨xs, hb⟩ := h5.blkOf hk; exact ⟨_, xs, hb⟩))
  have newOwn : ∀ k, (Value.slice a5 ((F1 a).length + 1) c5).ownBlock = some k → (vOf g1 a).ownBlock = some k ∨ w.heap.size ≤ k := fun k e => by
    rcases q4 with q | q
    · exact .inl (q ▸ e)
    · rw [q] at e
      have := Option.some.inj e
      have := hA.size
      exact .inr (by omega)
  have old2 : ∀ u l k, Sw eI 2 w u l → u.ownBlock = some k → k < w.heap.size := fun u l k hs e => hs.lt e
  refine ⟨⟨⟨hm9, fun a' => ?_, fun a' k e => ?_, fun a' a'' k hne e => ?_, fun a' hk => ?_, h.s1.at_⟩, ?_, h.ne, fun a' a'' k e => ?_⟩, ⟨hc9.os.trans g5.os, hc9.tape.trans g5.tape, hc9.output.trans g5.output, Nat.le_trans g5.size hc9.size, fun i hi => (hc9.block i (Nat.lt_of_lt_of_le hi g5.size) (fun e => by have := h.s1.at_; omega)).trans (g5.block i hi)⟩⟩
  · by_cases e : a' = a
    · subst e
      rw [vOf, upd_same, upd_same]
      exact q2.keep fun k hk => k9 k (q2.lt hk) (nb k (by obtain ⟨xs, hb⟩ := q2.blkOf hk; exact ⟨_, xs, hb⟩))
    · rw [vOf, upd_other e, upd_other e]
      exact keepRow _ _ (h.s1.row a') (fun k e1 e2 => h.s1.dis a' a k e e1 e2)
  · by_cases e1 : a' = a
    · subst e1
      rw [vOf, upd_same] at e
      exact f5 k e
    · rw [vOf, upd_other e1] at e
      exact h.s1.lob a' k e
  · by_cases e1 : a' = a
    · subst e1
      rw [vOf, upd_same] at e
      rw [vOf, upd_other (Ne.symm hne)]
      intro e2
      rcases newOwn k e with q | q
      · exact h.s1.dis _ _ k hne q e2
      · have := old2 _ _ k (h.s1.row a'') e2; omega
    · rw [vOf, upd_other e1] at e
      by_cases e3 : a'' = a
      · subst e3
        rw [vOf, upd_same]
        intro e2
        rcases newOwn k e2 with q | q
        · exact h.s1.dis _ _ k hne e q
        · have := old2 _ _ k (h.s1.row a') e; omega
      · rw [vOf, upd_other e3]
        exact h.s1.dis _ _ k hne e
  · by_cases e : a' = a
    · subst e; rw [upd_same]; simp
    · rw [upd_other e] at hk ⊢; exact h.s1.key a' hk
  · refine ⟨(h.s2.mp.fx hfx (by simp)).chg hc9 h.ne.symm, fun a' => keepRow _ _ (h.s2.row a') (fun k e1 e2 => h.dis a a' k e2 e1), h.s2.lob, h.s2.dis, h.s2.key, h.s2.at_⟩
  · by_cases e1 : a' = a
    · subst e1
      rw [vOf, upd_same] at e
      intro e2
      rcases newOwn k e with q | q
      · exact h.dis _ _ k q e2
      · have := old2 _ _ k (h.s2.row a'') e2; omega
    · rw [vOf, upd_other e1] at e
      exact h.dis _ _ k e
set_option maxRecDepth 100000 in
set_option maxHeartbeats 1000000 in
theorem tableOf_any (c : Int) (W : World) : Calls Tryz.prog 30 #[I c] W fun e W' => e = .returned (.agg #[I c, .slice none 0 0, .map (some (W.heap.size + 1))]) ∧ Mp (fun n : Int => I n) 2 W' (W.heap.size + 1) (fun _ => none) ∧ G W W' := by
  have hmm := @run_makeMap Tryz.prog
  go_enter Tryz.func30, Tryz.ntmps30
  go_wp2_with fail
  have hC9 : Blk ((W.alloc (.cells #[I c, .slice none 0 0, .map (some (W.heap.size + 1))] 76)).alloc (.map #[] 0)) W.heap.size 76 [I c, .slice none 0 0, .map (some (W.heap.size + 1))] := (Blk.new W [I c, .slice none 0 0, .map (some (W.heap.size + 1))] 76).G ((G.refl _).alloc _)
  have hM := Mp.made (W.alloc (.cells #[I c, .slice none 0 0, .map (some (W.heap.size + 1))] 76)) (fun n : Int => I n) 2
  rw [World.size_alloc] at hM
  exact bodyPost_ret_by (v := .agg #[I c, .slice none 0 0, .map (some (W.heap.size + 1))]) (results_cell_row Tryz.results30 _ _ W.heap.size 76 _ (0, 0) _ rfl hC9.h Tryz.underlying76 rfl (by kernel_rfl)) rfl ⟨rfl, hM, ((G.refl W).alloc _).alloc _⟩
/-- The edges at a node, of the first i. -/
def fanF (f : Ed → Int) (l : List Ed) (a : Int) : List Int := (l.filter fun y => f y == a).map (·.id)
theorem fanF_snoc (f : Ed → Int) (l : List Ed) (x : Ed) : fanF f (l ++ [x]) = upd (fanF f l) (f x) (fanF f l (f x) ++ [x.id]) := by
  funext a
  unfold fanF
  rw [List.filter_append, List.map_append]
  by_cases e : a = f x
  · subst e
    rw [upd_same]
    simp
  · rw [upd_other e]
    have : (f x == a) = false := beq_false_of_ne (fun q => e q.symm)
    simp [this]
theorem fanF_len (f : Ed → Int) (l : List Ed) (a : Int) : (fanF f l a).length ≤ l.length := by
  unfold fanF
  rw [List.length_map]
  exact List.length_filter_le _ _
theorem fanF_mem {f : Ed → Int} {l : List Ed} {a : Int} (h : fanF f l a ≠ []) : a ∈ l.map f := by
  cases e : l.filter (fun y => f y == a) with
  | nil => exact absurd (by unfold fanF; rw [e]; rfl) h
  | cons y r =>
    have : y ∈ l.filter (fun y => f y == a) := by rw [e]; simp
    rw [List.mem_filter] at this
    exact List.mem_map.2 ⟨y, this.1, by simpa using this.2⟩
end Go.Proofs.YtifioikdhfhljaaGreatDoor
