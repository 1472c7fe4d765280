/- Paths: what the program is shown. -/
import Derived.Test.YtemkilffagjmcaaDoorPj5
import Derived.Maps.AppendAt
namespace Go.Proofs.YtemkilffagjmcaaDoor
open Go.RowKit

theorem wpList_append_run {P : Program} {w : World} {ops : Array Oper} {rest : List Oper} {o : Oper} {a : Act} {Q : Exit → Act → World → Prop} (hgd : o.guard = none) (s x : Operand) (t : TypeId)
    (ho : o.op = .call { callee := .builtin .append, args := #[s, x], argTypes := #[t, t] }) (v z : Value) (hs : a.eval s = v) (hx : a.eval x = z) {v' : Value} {w' : World} (hr : (Builtin.append_ #[t, t] o.type #[v, z]).run P w = .ok v' w')
    (h : wpList P ops Q rest (a.put o.dst v') w') : wpList P ops Q (o :: rest) a w := by
  refine wpList_plain hgd fun K hK => ?_
  unfold Oper.wp execOp
  simp only [ho, resolve, invoke, builtin, Sem.run_bind, Sem.run_pure, Result.andThen_ok, List.map_toArray, List.map_cons, List.map_nil, hs, hx, hr]
  exact hK _ _ h
theorem info_I : ∃ i, Tryd.prog.info? 2 = some i ∧ i.zero = some (I 0) ∧ i.size = 1 ∧ i.bytes = 8 := info_parts (by kernel_rfl)
theorem app_I (w : World) (lo : Nat) (v : Value) (n : Nat) (xs : List Value) (h : Rw lo 2 1 w v n xs) (a : Addr) (m c : Nat) (news : List Value) (hl : news.length = m * 1) (hn : ∀ (j : Nat) (u : Value), news[j]? = some u → w.cell? (a.add j) = some u) (h1 : ∀ u ∈ news, u.oneCell' = true) (hb : n + m ≤ 17179869184) (hz : lo ≤ w.heap.size) :
    ∃ v' w', (Builtin.append_ #[23, 23] 23 #[v, .slice (some a) m c]).run Tryd.prog w = .ok v' w' ∧ Rw lo 2 1 w' v' (n + m) (xs ++ news) ∧ Chg (fun k => v.ownBlock = some k) w w' ∧ (v'.ownBlock = v.ownBlock ∨ v'.ownBlock = some w.heap.size) := by
  obtain ⟨i0, hi0, hz0, hz1, hz2⟩ := info_I
  have hmx : (17179869184 : Nat) ≤ maxLen := of_decide_eq_true (by kernel_rfl)
  obtain ⟨v', w', hr, q2, q3, _, q5⟩ := run_append_own_at (P := Tryd.prog) w lo 23 23 2 i0 _ 1 8 Tryd.underlying23 hi0 hz0 hz1 hz2 rfl (by decide) v n xs h a m c news hl hn h1 (by omega) (by omega) hz
  exact ⟨v', w', hr, q2, ⟨q3.os, q3.tape, q3.output, q3.size, fun k hk hn => q3.block k hk (fun e => hn e.symm)⟩, q5⟩
theorem info_A : ∃ i, Tryd.prog.info? 40 = some i ∧ i.zero = some (.agg #[I 0, I 0, I 0]) ∧ i.size = 3 ∧ i.bytes = 24 := info_parts (by kernel_rfl)
theorem app_A (w : World) (lo : Nat) (v : Value) (n : Nat) (xs : List Value) (h : Rw lo 40 3 w v n xs) (a : Addr) (m c : Nat) (news : List Value) (hl : news.length = m * 3) (hn : ∀ (j : Nat) (u : Value), news[j]? = some u → w.cell? (a.add j) = some u) (h1 : ∀ u ∈ news, u.oneCell' = true) (hb : n + m ≤ 17179869184) (hz : lo ≤ w.heap.size) :
    ∃ v' w', (Builtin.append_ #[37, 37] 37 #[v, .slice (some a) m c]).run Tryd.prog w = .ok v' w' ∧ Rw lo 40 3 w' v' (n + m) (xs ++ news) ∧ Chg (fun k => v.ownBlock = some k) w w' ∧ (v'.ownBlock = v.ownBlock ∨ v'.ownBlock = some w.heap.size) := by
  obtain ⟨i0, hi0, hz0, hz1, hz2⟩ := info_A
  have hmx : (17179869184 : Nat) ≤ maxLen := of_decide_eq_true (by kernel_rfl)
  obtain ⟨v', w', hr, q2, q3, _, q5⟩ := run_append_own_at (P := Tryd.prog) w lo 37 37 40 i0 _ 3 24 Tryd.underlying37 hi0 hz0 hz1 hz2 rfl (by decide) v n xs h a m c news hl hn h1 (by omega) (by omega) hz
  exact ⟨v', w', hr, q2, ⟨q3.os, q3.tape, q3.output, q3.size, fun k hk hn => q3.block k hk (fun e => hn e.symm)⟩, q5⟩
theorem info_S : ∃ i, Tryd.prog.info? 37 = some i ∧ i.zero = some (.slice none 0 0) ∧ i.size = 1 ∧ i.bytes = 24 := info_parts (by kernel_rfl)
theorem app_S (w : World) (lo : Nat) (v : Value) (n : Nat) (xs : List Value) (h : Rw lo 37 1 w v n xs) (a : Addr) (m c : Nat) (news : List Value) (hl : news.length = m * 1) (hn : ∀ (j : Nat) (u : Value), news[j]? = some u → w.cell? (a.add j) = some u) (h1 : ∀ u ∈ news, u.oneCell' = true) (hb : n + m ≤ 17179869184) (hz : lo ≤ w.heap.size) :
    ∃ v' w', (Builtin.append_ #[28, 28] 28 #[v, .slice (some a) m c]).run Tryd.prog w = .ok v' w' ∧ Rw lo 37 1 w' v' (n + m) (xs ++ news) ∧ Chg (fun k => v.ownBlock = some k) w w' ∧ (v'.ownBlock = v.ownBlock ∨ v'.ownBlock = some w.heap.size) := by
  obtain ⟨i0, hi0, hz0, hz1, hz2⟩ := info_S
  have hmx : (17179869184 : Nat) ≤ maxLen := of_decide_eq_true (by kernel_rfl)
  obtain ⟨v', w', hr, q2, q3, _, q5⟩ := run_append_own_at (P := Tryd.prog) w lo 28 28 37 i0 _ 1 24 Tryd.underlying28 hi0 hz0 hz1 hz2 rfl (by decide) v n xs h a m c news hl hn h1 (by omega) (by omega) hz
  exact ⟨v', w', hr, q2, ⟨q3.os, q3.tape, q3.output, q3.size, fun k hk hn => q3.block k hk (fun e => hn e.symm)⟩, q5⟩
/-- The mark behind the lists. -/
abbrev mk : Ar := (-71, -72, -73)
structure Mk (w : World) : Prop where
  lt : 0 < w.heap.size
  c : ∀ o, o < 3 → w.cell? ⟨0, o, none⟩ = ([I (-71), I (-72), I (-73)] : List Value)[o]?
theorem Mk.G {w w' : World} (h : Mk w) (g : Go.Proofs.YtemkilffagjmcaaDoor.G w w') : Mk w' := ⟨Nat.lt_of_lt_of_le h.lt g.size, fun o ho => (g.cell h.lt).trans (h.c o ho)⟩
/-- What turns when the program asks. -/
abbrev shTs : List TypeId := [30, 2, 37]
/-- A list as it was given: the arcs of the node, two marks. -/
def Given (lo : Nat) (w : World) (v : Value) (l : List Ar) : Prop := ∃ g cap rest, v = .slice (some ⟨g, 0, none⟩) (l.length + 2) cap ∧ lo ≤ g ∧ Blk w g 40 (flA (l ++ [mk, mk]) ++ rest)
/-- The rows as they are shown: what was asked, what was given. -/
structure Shn (Wb W : World) (sh : Nat) (rv : Value) (rs : List Nr) (tail : Bool) (av gv : Value) (asked : List Int) (gl : List Value) : Prop where
  g : G Wb W
  blk : Blk W sh 30 [rv, .bool tail, av, gv]
  ask : Rw Wb.heap.size 2 1 W av asked.length (asked.map I)
  giv : Rw Wb.heap.size 37 1 W gv gl.length gl
  len : gl.length = asked.length
  all : ∀ (i : Nat) id v, asked[i]? = some id → gl[i]? = some v → Given Wb.heap.size W v (netOf rs tail id).1
  rows : Nrs Wb rv rs
  lo : Wb.heap.size ≤ sh
  mark : Mk Wb
/-- A list that the program was given, and may look at. -/
structure ArcO (w : World) (v : Value) (l : List Ar) : Prop where
  at_ : ∃ a cap, v = .slice a l.length cap ∧ (l = [] ∨ ∃ g rest, a = some ⟨g, 0, none⟩ ∧ Blk w g 40 (flA l ++ rest))
  ok : ∀ a ∈ l, Ar.ok a
theorem ArcO.mv {Wb w w' : World} {v : Value} {l : List Ar} {us : List TypeId} {mp : Nat → Prop} (h : ArcO w v l) (q : Mv Wb us mp w w') (he : 40 ∉ us) : ArcO w' v l := by
  refine ⟨?_, h.ok⟩
  obtain ⟨a, cap, e, h1⟩ := h.at_
  refine ⟨a, cap, e, ?_⟩
  rcases h1 with h1 | ⟨g, rest, e2, h2⟩
  · exact .inl h1
  · exact .inr ⟨g, rest, e2, h2.mv q he⟩
theorem ArcO.G {w w' : World} {v : Value} {l : List Ar} (h : ArcO w v l) (q : Go.Proofs.YtemkilffagjmcaaDoor.G w w') : ArcO w' v l := h.mv (Wb := w) (us := []) (mp := fun _ => False) (.of_G (G.refl _) q) (by simp)
theorem ArcO.get {w : World} {a : Option Addr} {n cap : Nat} {l : List Ar} (h : ArcO w (.slice a n cap) l) {i : Nat} {x : Ar} (hi : l[i]? = some x) : n = l.length ∧ ∃ b, a = some ⟨b, 0, none⟩ ∧ w.cell? ⟨b, i * 3, none⟩ = some (I x.1) ∧ w.cell? ⟨b, i * 3 + 1, none⟩ = some (I x.2.1) ∧ w.cell? ⟨b, i * 3 + 2, none⟩ = some (I x.2.2) ∧ b < w.heap.size := by
  have hl := (List.getElem?_eq_some_iff.1 hi).1
  obtain ⟨a', cap', e, h1⟩ := h.at_
  simp only [Value.slice.injEq] at e
  obtain ⟨rfl, rfl, rfl⟩ := e
  refine ⟨rfl, ?_⟩
  rcases h1 with rfl | ⟨b, rest, rfl, h2⟩
  · simp at hi
  · obtain ⟨g1, g2, g3⟩ := flA_get l i x hi
    have hlen := flA_len l
    exact ⟨b, rfl, by rw [h2.cell, List.getElem?_append_left (by omega)]; exact g1, by rw [h2.cell, List.getElem?_append_left (by omega)]; exact g2, by rw [h2.cell, List.getElem?_append_left (by omega)]; exact g3, h2.lt⟩
theorem Given.mv {lo : Nat} {Wb w w' : World} {v : Value} {l : List Ar} {us : List TypeId} {mp : Nat → Prop} (h : Given lo w v l) (q : Mv Wb us mp w w') (he : 40 ∉ us) : Given lo w' v l := by
  obtain ⟨g, cap, rest, e, h1, h2⟩ := h
  exact ⟨g, cap, rest, e, h1, h2.mv q he⟩
theorem Shn.mv {Wb W W' : World} {sh : Nat} {rv : Value} {rs : List Nr} {tail : Bool} {av gv : Value} {asked : List Int} {gl : List Value} {us : List TypeId} {mp : Nat → Prop} (k : Shn Wb W sh rv rs tail av gv asked gl) (q : Mv Wb us mp W W') (h0 : ∀ e, e ∈ [30, 2, 37, 40] → e ∉ us) : Shn Wb W' sh rv rs tail av gv asked gl :=
  ⟨q.G k.g, k.blk.mv q (h0 _ (by simp)), k.ask.mv q (h0 _ (by simp)), k.giv.mv q (h0 _ (by simp)), k.len, fun i id v h1 h2 => (k.all i id v h1 h2).mv q (h0 _ (by simp)), k.rows, k.lo, k.mark⟩
theorem Shn.G {Wb W W' : World} {sh : Nat} {rv : Value} {rs : List Nr} {tail : Bool} {av gv : Value} {asked : List Int} {gl : List Value} (k : Shn Wb W sh rv rs tail av gv asked gl) (q : Go.Proofs.YtemkilffagjmcaaDoor.G W W') : Shn Wb W' sh rv rs tail av gv asked gl :=
  k.mv (us := []) (mp := fun _ => False) (.of_G k.g q) (fun _ _ => by simp)
/-- Of the lists of ids only the list of those that were asked has turned. -/
def AskO (W W' : World) (av av' : Value) : Prop := (∀ b ys, Blk W b 2 ys → av.ownBlock ≠ some b → W'.heap[b]? = W.heap[b]?) ∧ ∀ b, av'.ownBlock = some b → av.ownBlock = some b ∨ W.heap.size ≤ b
theorem AskO.refl (W : World) (av : Value) : AskO W W av av := ⟨fun _ _ _ _ => rfl, fun _ h => .inl h⟩
theorem AskO.left {W W1 W' : World} {av av' : Value} (h : AskO W1 W' av av') (g : Go.Proofs.YtemkilffagjmcaaDoor.G W W1) : AskO W W' av av' :=
  ⟨fun b ys hb hn => (h.1 b ys (hb.G g) hn).trans (g.block b hb.lt), fun b hb => (h.2 b hb).imp (fun q => q) (fun q => Nat.le_trans g.size q)⟩
theorem AskO.right {Wb W W1 W' : World} {av av' : Value} {us : List TypeId} {mp : Nat → Prop} (h : AskO W W1 av av') (m : Mv Wb us mp W1 W') (he : 2 ∉ us) : AskO W W' av av' :=
  ⟨fun b ys hb hn => (m.blk b 2 ys (hb.keep (h.1 b ys hb hn)) he).trans (h.1 b ys hb hn), h.2⟩
theorem AskO.trans {W W1 W' : World} {av av1 av' : Value} (h : AskO W W1 av av1) (k : AskO W1 W' av1 av') (hs : W.heap.size ≤ W1.heap.size) : AskO W W' av av' :=
  ⟨fun b ys hb hn => (k.1 b ys (hb.keep (h.1 b ys hb hn)) (fun e => (h.2 b e).elim hn (fun q => by have := hb.lt; omega))).trans (h.1 b ys hb hn), fun b hb => (k.2 b hb).elim (h.2 b) (fun q => .inr (Nat.le_trans hs q))⟩
theorem made_a (n : Nat) : madeCells (Value.agg #[I 0, I 0, I 0]).cells n = (List.replicate n (I 0)).toArray := by
  have e : (Value.agg #[I 0, I 0, I 0]).cells = #[I 0, I 0, I 0] := rfl
  rw [e]
  unfold madeCells
  apply Array.ext
  · simp
  · intro i h1 h2
    simp only [Array.getElem_map, Array.getElem_range, List.getElem_toArray, List.getElem_replicate]
    have : i % (#[I 0, I 0, I 0] : Array Value).size < 3 := Nat.mod_lt _ (by decide)
    generalize i % (#[I 0, I 0, I 0] : Array Value).size = k at this ⊢
    match k, this with
    | 0, _ => rfl
    | 1, _ => rfl
    | 2, _ => rfl
theorem Rw.cap {lo : Nat} {e : TypeId} {nc : Nat} {w : World} {g n cap : Nat} {xs : List Value} (h : Rw lo e nc w (.slice (some ⟨g, 0, none⟩) n cap) n xs) : n ≤ cap := by
  rcases h.2 with ⟨q, _⟩ | ⟨g', cap', cur, q, _, _, hc, _⟩
  · cases q
  · simp only [Value.slice.injEq] at q
    obtain ⟨_, _, rfl⟩ := q
    exact hc
theorem netOf_code {rs : List Nr} {tail : Bool} {id : Int} (h : (netOf rs tail id).2 ≠ 0) : (netOf rs tail id).1 = [] := by
  unfold netOf at h ⊢
  split
  · split
    · rename_i h1 h2; simp [h1, h2] at h
    · rfl
  · split
    · rename_i h1 h2; simp [h1, h2] at h
    · rfl
/-- An empty row that was made. -/
theorem rw_made (w : World) (lo n : Nat) (hn : n ≤ maxLen) (hlo : lo ≤ w.heap.size) : Rw lo 40 3 (w.alloc (.cells (List.replicate (n * 3) (I 0)).toArray 40)) (.slice (some ⟨w.heap.size, 0, none⟩) 0 n) 0 [] :=
  ⟨by simp, .inr ⟨w.heap.size, n, _, rfl, hlo, heap_alloc_new w _, Nat.zero_le _, hn, by simp, by simp⟩⟩
theorem Rw.of_chg {lo : Nat} {e : TypeId} {nc : Nat} {Wb w w' : World} {v : Value} {n : Nat} {xs : List Value} {us : List TypeId} {mp : Nat → Prop} (h : Rw lo e nc w v n xs) (hg : Go.Proofs.YtemkilffagjmcaaDoor.G Wb w) (hl : Wb.heap.size ≤ lo) (q : Chg (fun k => v.ownBlock = some k) w w') (he : e ∈ us) : Mv Wb us mp w w' := by
  refine .of_chg hg q (fun b hb => Nat.le_trans hl (h.own hb).1) (fun b e' ys hb hF => ?_) (fun b es c hb hF => ?_)
  · obtain ⟨_, _, zs, hz⟩ := h.own hF
    rw [(hb.type hz).1]; exact he
  · obtain ⟨_, _, zs, hz⟩ := h.own hF
    exact (hz.nomap hb).elim
set_option maxRecDepth 100000 in
set_option maxHeartbeats 2000000 in
theorem arcs_any (Wb W : World) (sh : Nat) (rv : Value) (rs : List Nr) (tail : Bool) (av gv : Value) (asked : List Int) (gl : List Value) (id : Int) (k : Shn Wb W sh rv rs tail av gv asked gl) (hr : R64 id) (hrl : rs.length ≤ 1048576) (hal : (netOf rs tail id).1.length ≤ 1048576) (hask : asked.length ≤ 8589934592) :
    Calls Tryd.prog 9 #[ptr sh, I id] W fun e W' => ∃ v' av' gv' gl', e = .returned (.tuple #[v', I (netOf rs tail id).2]) ∧ ArcO W' v' (netOf rs tail id).1 ∧ Shn Wb W' sh rv rs tail av' gv' (asked ++ [id]) gl' ∧ Mv Wb shTs (fun _ => False) W W' ∧ AskO W W' av av' := by
  obtain ⟨rva, rvc, hrv, -⟩ := k.rows
  subst hrv
  have k1 := k.G ((G.refl W).alloc (.cells #[I id] 2))
  obtain ⟨ava, avc, rfl⟩ := k.ask.form
  obtain ⟨gva, gvc, rfl⟩ := k.giv.form
  obtain ⟨av', w2, hrun, hrow, hchg, hob⟩ := app_I (W.alloc (.cells #[I id] 2)) Wb.heap.size (.slice ava asked.length avc) asked.length (asked.map I) k1.ask ⟨W.heap.size, 0, none⟩ 1 1 [I id] rfl (fun j u hj => by rw [Addr.add_mid, Nat.zero_add, (Blk.new W [I id] 2).cell]; exact hj) (fun u hu => by simp at hu; subst hu; rfl) (by omega) k1.g.size
  obtain ⟨ava2, avc2, rfl⟩ := Rw.form hrow
  have HRUN := hide hrun
  have hM2 : Mv Wb [30, 2] (fun _ => False) (W.alloc (.cells #[I id] 2)) w2 := k1.ask.of_chg k1.g (Nat.le_refl _) hchg (by simp)
  have hb2 : Blk w2 sh 30 _ := k1.blk.chg hchg (fun q => by obtain ⟨_, _, ys, hy⟩ := k1.ask.own q; exact hy.ne k1.blk (by decide) rfl)
  have hc1 := k1.blk.cell
  have hc0 := k.blk.cell
  have hc2 := hb2.cell
  have hz2 := hb2.frozen
  have HAB : Hid (∀ b, (Value.slice ava2 (asked.length + 1) avc2).ownBlock = some b → b ≠ sh) := fun b hb e => by
    obtain ⟨_, _, ys, hy⟩ := Rw.own hrow hb
    exact hy.ne hb2 (by decide) e
  have HM3 : Hid (Mv Wb [30, 2] (fun _ => False) W (w2.setCell ⟨sh, 2, none⟩ (.slice ava2 (asked.length + 1) avc2))) := by
    refine ((Mv.of_G k.g ((G.refl W).alloc _)).trans hM2).trans (.of_chg (hM2.G k1.g) (chg_setCell (F := fun b => b = sh) _ _ (.inl rfl)) (fun b hb => by rw [hb]; exact k.lo) (fun b e xs hb hF => ?_) (fun b es c hb hF => ?_))
    · subst hF; rw [(hb.type hb2).1]; decide
    · subst hF; exact (hb2.nomap hb).elim
  have HO3 : Hid (AskO W (w2.setCell ⟨sh, 2, none⟩ (.slice ava2 (asked.length + 1) avc2)) (.slice ava asked.length avc) (.slice ava2 (asked.length + 1) avc2)) := by
    refine ⟨fun b ys hb hn => ?_, fun b hb => ?_⟩
    · have hb1 := hb.G ((G.refl W).alloc (.cells #[I id] 2))
      have hb2' := hb1.chg hchg hn
      rw [Below.heap_setCell _ _ _ _ (hb2'.ne hb2 (by decide)), hchg.block b hb1.lt hn]
      exact ((G.refl W).alloc (.cells #[I id] 2)).block b hb.lt
    · rcases hob with e | e
      · exact .inl (by rw [← e]; exact hb)
      · rw [e] at hb
        cases hb
        exact .inr (by rw [World.size_alloc]; omega)
  have HB3 : Hid (Blk (w2.setCell ⟨sh, 2, none⟩ (.slice ava2 (asked.length + 1) avc2)) sh 30 [.slice rva rs.length rvc, .bool tail, .slice ava2 (asked.length + 1) avc2, .slice gva gl.length gvc]) := hb2.set 2 _
  have HR3 : Hid (Rw Wb.heap.size 2 1 (w2.setCell ⟨sh, 2, none⟩ (.slice ava2 (asked.length + 1) avc2)) (.slice ava2 (asked.length + 1) avc2) (asked.length + 1) (asked.map I ++ [I id])) := Rw.keep hrow (fun b hb => Below.heap_setCell _ _ _ _ (HAB.out b hb))
  have HK := hide k
  clear k k1 hrun hrow hchg hob hM2
  go_enter Tryd.func9, Tryd.ntmps9
  go_wp2_with (first | (at_builtin; refine wpList_append_run rfl _ _ 23 rfl (.slice ava asked.length avc) (.slice (some ⟨W.heap.size, 0, none⟩) 1 1) rfl rfl HRUN.out ?_) | fail)
  generalize w2.setCell ⟨sh, 2, none⟩ (.slice ava2 (asked.length + 1) avc2) = w3 at HM3 HB3 HR3 HO3 ⊢
  clear hc0 hc1 hc2 hz2 hb2 HRUN HAB
  have HG3 := hide (HM3.out.G HK.out.g)
  refine (of_any Wb w3 _ rs tail id HK.out.rows HG3.out hr hrl).mono ?_
  rintro e w4 ⟨lv, rfl, harx, hg4⟩
  have har4 := harx.arcs (HG3.out.trans hg4)
  clear harx
  have HG4 := hide (HG3.out.trans hg4)
  have HM4 := hide (HM3.out.trans (.of_G HG3.out hg4))
  have HO4 := hide (HO3.out.right (us := []) (mp := fun _ => False) (.of_G HG3.out hg4) (by simp))
  have HB4 := hide (HB3.out.G hg4)
  have HR4 := hide (HR3.out.G hg4)
  have HA4 := hide har4
  clear hg4 har4 HM3 HB3 HR3 HG3
  obtain ⟨l, hle⟩ : ∃ l, l = (netOf rs tail id).1 := ⟨_, rfl⟩
  obtain ⟨code, hce⟩ : ∃ code, code = (netOf rs tail id).2 := ⟨_, rfl⟩
  have HLE := hide hle
  have HCE := hide hce
  rw [← hle] at HA4 hal
  rw [← hce]
  clear hle hce
  obtain ⟨la, lc, rfl⟩ : ∃ la lc, lv = .slice la l.length lc := by obtain ⟨a, c, e, -, -⟩ := HA4.out.at_; exact ⟨a, c, e⟩
  -- the list of its own
  obtain ⟨i0, hi, hz0, hz1, hz2⟩ := info_A
  have hmk := run_make (P := Tryd.prog) w4 37 40 i0 (.agg #[I 0, I 0, I 0]) Tryd.underlying37 hi hz0 .i64 .i64 0 ((l.length : Int) + 2) (by omega) (by omega) (by rw [hz2]; omega) (by omega)
  rw [hz1, made_a, show ((l.length : Int) + 2).toNat = l.length + 2 by omega, show (0 : Int).toNat = 0 from rfl] at hmk
  have hmx : (1048578 : Nat) ≤ maxLen := of_decide_eq_true (by kernel_rfl)
  have hrw5 := rw_made w4 w4.heap.size (l.length + 2) (by omega) (Nat.le_refl _)
  have HMK := hide hmk
  have hg5 : G w4 (w4.alloc (.cells (List.replicate ((l.length + 2) * 3) (I 0)).toArray 40)) := (G.refl w4).alloc _
  have hw1 : wrap64 ((l.length : Int) + 2) = (l.length : Int) + 2 := by unfold wrap64; omega
  clear hmk hi hz0 hz1 hz2
  generalize w4.alloc (.cells (List.replicate ((l.length + 2) * 3) (I 0)).toArray 40) = w5 at HMK hrw5 hg5
  obtain ⟨ov, w6, hrun6, hrow6, hchg6⟩ : ∃ v' w', (Builtin.append_ #[37, 37] 37 #[.slice (some ⟨w4.heap.size, 0, none⟩) 0 (l.length + 2), .slice la l.length lc]).run Tryd.prog w5 = .ok v' w' ∧ Rw w4.heap.size 40 3 w' v' l.length (flA l) ∧ Chg (fun k => (Value.slice (some ⟨w4.heap.size, 0, none⟩) 0 (l.length + 2)).ownBlock = some k) w5 w' := by
    have ha5 := HA4.out.G hg5
    obtain ⟨a', c', e', hn0, h1⟩ := ha5.at_
    simp only [Value.slice.injEq] at e'
    obtain ⟨rfl, -, rfl⟩ := e'
    have hone : ∀ u ∈ flA l, u.oneCell' = true := fun u hu => by
      obtain ⟨x, _, hx⟩ := List.mem_flatMap.1 hu
      simp at hx
      rcases hx with rfl | rfl | rfl <;> rfl
    cases la with
    | none =>
      have hl0 : l = [] := by
        rcases h1 with h1 | ⟨b, off, e, _⟩
        · exact h1
        · cases e
      subst hl0
      obtain rfl := hn0 rfl
      obtain ⟨i0, hi0, -, -, -⟩ := info_A
      exact ⟨_, w5, run_append_owned_none (P := Tryd.prog) w5 w4.heap.size 37 37 40 i0 3 Tryd.underlying37 hi0 _ 0 [] hrw5, hrw5, Chg.refl _ _⟩
    | some a =>
      obtain ⟨v', w', q1, q2, q3, _⟩ := app_A w5 w4.heap.size (.slice (some ⟨w4.heap.size, 0, none⟩) 0 (l.length + 2)) 0 [] hrw5 a l.length lc (flA l) (flA_len l) (fun j u hj => by
        rcases h1 with rfl | ⟨b, off, e, h2⟩
        · simp [flA] at hj
        · cases e
          have hjl := (List.getElem?_eq_some_iff.1 hj).1
          rw [flA_len] at hjl
          rw [Addr.add_mid, h2 j hjl]
          exact hj) hone (by omega) hg5.size
      rw [Nat.zero_add, List.nil_append] at q2
      exact ⟨v', w', q1, q2, q3⟩
  have hnb : ∀ b, (Value.slice (some ⟨w4.heap.size, 0, none⟩) 0 (l.length + 2)).ownBlock = some b → w4.heap.size ≤ b := fun b hb => (hrw5.own hb).1
  have hg6 : G w4 w6 := ((hg5.chg (F := fun _ => False)).more hchg6 (fun i hi q => absurd (hnb i q) (by omega))).G (fun i q => q.elim)
  obtain ⟨ova, ovc, rfl⟩ := Rw.form hrow6
  have HRUN6 := hide hrun6
  have hmark := (HK.out.mark.G HG4.out).G hg6
  have m0 := hmark.c 0 (by omega)
  have m1 := hmark.c 1 (by omega)
  have m2 := hmark.c 2 (by omega)
  simp only [List.getElem?_cons_zero, List.getElem?_cons_succ] at m0 m1 m2
  -- the marks
  have hg7 : G w6 (w6.alloc (.cells #[I (-71), I (-72), I (-73), I (-71), I (-72), I (-73)] 40)) := (G.refl w6).alloc _
  have hnew7 := (Blk.new w6 [I (-71), I (-72), I (-73), I (-71), I (-72), I (-73)] 40).cell
  obtain ⟨ov8, w8, hrun8, hrow8, hchg8, -⟩ := app_A _ w4.heap.size (.slice ova l.length ovc) l.length (flA l) (Rw.G hrow6 hg7) ⟨w6.heap.size, 0, none⟩ 2 2 [I (-71), I (-72), I (-73), I (-71), I (-72), I (-73)] rfl (fun j u hj => by rw [Addr.add_mid, Nat.zero_add, hnew7]; exact hj) (fun u hu => by simp at hu; rcases hu with rfl | rfl | rfl | rfl | rfl | rfl <;> rfl) (by omega) (Nat.le_trans hg6.size hg7.size)
  have hg8 : G w4 w8 := (((hg6.trans hg7).chg (F := fun _ => False)).more hchg8 (fun i hi q => absurd (Rw.own hrow6 q).1 (by omega))).G (fun i q => q.elim)
  have e8 : flA l ++ [I (-71), I (-72), I (-73), I (-71), I (-72), I (-73)] = flA (l ++ [mk, mk]) := by rw [flA_app]; rfl
  rw [e8] at hrow8
  obtain ⟨g8, c8, rest8, rfl, hlo8, hblk8, -⟩ := Rw.blk hrow8 (by omega)
  have HRUN8 := hide hrun8
  -- what was given
  have hb8 := HB4.out.G hg8
  have hS8 := (HK.out.giv.mv HM4.out (by decide)).G hg8
  have hcap8 := Rw.cap hrow8
  have hg9 : G w8 (w8.alloc (.cells #[(Value.slice (some ⟨g8, 0, none⟩) (l.length + 2) c8)] 37)) := (G.refl w8).alloc _
  have hnew9 := (Blk.new w8 [(Value.slice (some ⟨g8, 0, none⟩) (l.length + 2) c8)] 37).cell
  have hG9 := HG4.out.trans (hg8.trans hg9)
  obtain ⟨gv10, w10, hrun10, hrow10, hchg10, -⟩ := app_S _ Wb.heap.size (.slice gva gl.length gvc) gl.length gl (Rw.G hS8 hg9) ⟨w8.heap.size, 0, none⟩ 1 1 [(Value.slice (some ⟨g8, 0, none⟩) (l.length + 2) c8)] rfl (fun j u hj => by rw [Addr.add_mid, Nat.zero_add, hnew9]; exact hj) (fun u hu => by simp at hu; subst hu; rfl) (by have := HK.out.len; omega) hG9.size
  obtain ⟨gva2, gvc2, rfl⟩ := Rw.form hrow10
  have HRUN10 := hide hrun10
  have hS9 := Rw.G hS8 hg9
  have hM10 : Mv Wb [30, 37] (fun _ => False) (w8.alloc (.cells #[(Value.slice (some ⟨g8, 0, none⟩) (l.length + 2) c8)] 37)) w10 := hS9.of_chg hG9 (Nat.le_refl _) hchg10 (by simp)
  have hb10 : Blk w10 sh 30 _ := (hb8.G hg9).chg hchg10 (fun q => by obtain ⟨_, _, ys, hy⟩ := hS9.own q; exact hy.ne (hb8.G hg9) (by decide) rfl)
  have hM11 : Mv Wb [30, 37] (fun _ => False) w10 (w10.setCell ⟨sh, 3, none⟩ (.slice gva2 (gl.length + 1) gvc2)) := by
    refine .of_chg (hM10.G hG9) (chg_setCell (F := fun b => b = sh) _ _ (.inl rfl)) (fun b hb => by rw [hb]; exact HK.out.lo) (fun b e xs hb hF => ?_) (fun b es c hb hF => ?_)
    · subst hF; rw [(hb.type hb10).1]; decide
    · subst hF; exact (hb10.nomap hb).elim
  have hMe : Mv Wb [30, 37] (fun _ => False) w4 (w10.setCell ⟨sh, 3, none⟩ (.slice gva2 (gl.length + 1) gvc2)) := ((Mv.of_G HG4.out (hg8.trans hg9)).trans hM10).trans hM11
  have HME : Hid (Mv Wb shTs (fun _ => False) W (w10.setCell ⟨sh, 3, none⟩ (.slice gva2 (gl.length + 1) gvc2))) := (HM4.out.mono (fun e q => by simp at q; rcases q with rfl | rfl <;> decide) (fun _ q => q)).trans (hMe.mono (fun e q => by simp at q; rcases q with rfl | rfl <;> decide) (fun _ q => q))
  have HOE := hide (HO4.out.right hMe (by decide))
  have HBE : Hid (Blk (w10.setCell ⟨sh, 3, none⟩ (.slice gva2 (gl.length + 1) gvc2)) g8 40 (flA (l ++ [mk, mk]) ++ rest8)) := (hblk8.G hg9).mv (hM10.trans hM11) (by decide)
  have HSE : Hid (Shn Wb (w10.setCell ⟨sh, 3, none⟩ (.slice gva2 (gl.length + 1) gvc2)) sh (.slice rva rs.length rvc) rs tail (.slice ava2 (asked.length + 1) avc2) (.slice gva2 (gl.length + 1) gvc2) (asked ++ [id]) (gl ++ [(Value.slice (some ⟨g8, 0, none⟩) (l.length + 2) c8)])) := by
    have hof : ∀ b, b ≠ sh → (w10.setCell ⟨sh, 3, none⟩ (.slice gva2 (gl.length + 1) gvc2)).heap[b]? = w10.heap[b]? := fun b hb => Below.heap_setCell _ _ _ _ hb
    refine ⟨hM11.G (hM10.G hG9), hb10.set 3 _, ?_, ?_, by simp [HK.out.len], fun i id' v h1 h2 => ?_, HK.out.rows, HK.out.lo, HK.out.mark⟩
    · have : Rw Wb.heap.size 2 1 w4 (.slice ava2 (asked.length + 1) avc2) (asked ++ [id]).length ((asked ++ [id]).map I) := by
        rw [List.length_append, List.map_append]; exact HR4.out
      have h9 := this.G (hg8.trans hg9)
      have h10 := h9.chg hchg10 (fun b hb q => by
        obtain ⟨_, _, ys, hy⟩ := hS9.own q
        obtain ⟨_, _, zs, hz⟩ := h9.own hb
        exact absurd (hy.type hz).1 (by decide))
      exact h10.keep (fun b hb => hof b (fun e => by obtain ⟨_, _, ys, hy⟩ := h10.own hb; exact hy.ne hb10 (by decide) e))
    · have : Rw Wb.heap.size 37 1 w10 (.slice gva2 (gl.length + 1) gvc2) (gl ++ [(Value.slice (some ⟨g8, 0, none⟩) (l.length + 2) c8)]).length (gl ++ [(Value.slice (some ⟨g8, 0, none⟩) (l.length + 2) c8)]) := by
        rw [List.length_append]; exact hrow10
      exact this.keep (fun b hb => hof b (fun e => by obtain ⟨_, _, ys, hy⟩ := this.own hb; exact hy.ne hb10 (by decide) e))
    · by_cases hi : i < asked.length
      · rw [List.getElem?_append_left hi] at h1
        rw [List.getElem?_append_left (by rw [HK.out.len]; exact hi)] at h2
        exact (HK.out.all i id' v h1 h2).mv HME.out (by decide)
      · have hil : i = asked.length := by
          have := (List.getElem?_eq_some_iff.1 h1).1
          simp at this
          omega
        subst hil
        rw [List.getElem?_append_right (Nat.le_refl _)] at h1
        rw [List.getElem?_append_right (by rw [HK.out.len]; exact Nat.le_refl _), HK.out.len] at h2
        simp at h1 h2
        subst h1 h2
        rw [← HLE.out]
        exact ⟨g8, c8, rest8, rfl, Nat.le_trans HG4.out.size hlo8, HBE.out⟩
  have hc8 := hb8.cell
  have hc4 := HB4.out.cell
  have hc10 := hb10.cell
  have hz10 := hb10.frozen
  have HAK := hide HA4.out.ok
  have hcap : ¬ (c8 < l.length) := by omega
  clear hS8 hS9 hM10 hM11 hMe hb10 hrun10 hrow10 hchg10 hrun8 hrow8 hchg8 hrun6 hrow6 hchg6 hb8 HB4 HR4 HM4 HA4 HG4 hG9 hnew9 hnew7 hrw5 hnb hg5 hg6 hg7 hg8 hg9 hmark hcap8 hblk8
  go_wp2_with fail
  rw [HMK.out]
  by_cases hc : code = 0
  · subst hc
    go_wp2_with (first | (at_builtin; refine wpList_append_run rfl _ _ 37 rfl (.slice (some ⟨w4.heap.size, 0, none⟩) 0 (l.length + 2)) (.slice la l.length lc) rfl rfl HRUN6.out ?_) | (at_builtin; refine wpList_append_run rfl _ _ 37 rfl (.slice ova l.length ovc) (.slice (some ⟨w6.heap.size, 0, none⟩) 2 2) rfl rfl HRUN8.out ?_) | (at_builtin; refine wpList_append_run rfl _ _ 28 rfl (.slice gva gl.length gvc) (.slice (some ⟨w8.heap.size, 0, none⟩) 1 1) rfl rfl HRUN10.out ?_) | fail)
    go_ret2
    rw [← HLE.out, ← HCE.out]
    refine ⟨_, _, _, _, rfl, ⟨⟨_, _, rfl, .inr ⟨g8, flA [mk, mk] ++ rest8, rfl, ?_⟩⟩, HAK.out⟩, HSE.out, HME.out, HOE.out⟩
    have := HBE.out
    rw [flA_app, List.append_assoc] at this
    exact this
  · have hcb : (code == 0) = false := beq_eq_false_iff_ne.2 hc
    have hl0 : l = [] := by rw [HLE.out]; exact netOf_code (by rw [← HCE.out]; exact hc)
    have HL0 := hide hl0
    clear hl0
    go_wp2_with (first | (at_builtin; refine wpList_append_run rfl _ _ 37 rfl (.slice (some ⟨w4.heap.size, 0, none⟩) 0 (l.length + 2)) (.slice la l.length lc) rfl rfl HRUN6.out ?_) | (at_builtin; refine wpList_append_run rfl _ _ 37 rfl (.slice ova l.length ovc) (.slice (some ⟨w6.heap.size, 0, none⟩) 2 2) rfl rfl HRUN8.out ?_) | (at_builtin; refine wpList_append_run rfl _ _ 28 rfl (.slice gva gl.length gvc) (.slice (some ⟨w8.heap.size, 0, none⟩) 1 1) rfl rfl HRUN10.out ?_) | fail)
    go_ret2
    rw [← HLE.out, ← HCE.out]
    refine ⟨_, _, _, _, rfl, ?_, HSE.out, HME.out, HOE.out⟩
    rw [HL0.out]
    exact ⟨⟨none, 0, rfl, .inl rfl⟩, fun a h => by simp at h⟩
end Go.Proofs.YtemkilffagjmcaaDoor
