/- GateFair: gone; a list of turns in memory. -/
import Derived.Test.YtmclbnhbioficaaGl6
import Derived.Test.YtmclbnhbioficaaGl4
namespace Go.Proofs.Ytmclbnhbioficaa
open Go.RowKit

abbrev SwU := Sw eQ 50
theorem info_U : ∃ i, Try.prog.info? 50 = some i ∧ i.zero = some (.agg #[I 0, I 0]) ∧ i.size = 2 ∧ i.bytes = 16 := info_parts (by kernel_rfl)
theorem fld0 (w : World) (a c x y z : Value) : (Instr.field 33 (.agg #[a, c, x, y, z]) 0).run Try.prog w = .ok a w := by kernel_rfl
/-- One more, put behind a list of turns. -/
theorem app_turn {w : World} {v : Value} {al : List (Int × Int)} (h : SwU w v al) (hl : al.length ≤ 1000) (x : Int) :
    ∃ v' w', (Builtin.append_ #[51, 51] 51 #[v, .slice (some ⟨w.heap.size, 0, none⟩) 1 1]).run Try.prog (w.alloc (.cells #[I x, I 0] 50)) = .ok v' w' ∧ SwU w' v' (al ++ [(x, 0)]) ∧ Chg (fun k => v.ownBlock = some k) (w.alloc (.cells #[I x, I 0] 50)) w' ∧ ∀ k, v'.ownBlock = some k → v.ownBlock = some k ∨ (w.alloc (.cells #[I x, I 0] 50)).heap.size ≤ k := by
  obtain ⟨i0, hi0, hz0, hz1, hz2⟩ := info_U
  have hmx : (1001 : Nat) ≤ maxLen := of_decide_eq_true (by kernel_rfl)
  obtain ⟨v', w', hrun, hs', hap⟩ := app_one (P := Try.prog) (ts := 51) i0 _ 16 Try.underlying51 hi0 hz0 hz1 hz2 rfl (by decide) (h.G ((G.refl w).alloc (.cells #[I x, I 0] 50))) ⟨w.heap.size, 0, none⟩ 1 (x, 0) (fun j u hj => by
    have h1 := (Blk.new w [I x, I 0] 50).cell j
    rw [Addr.add_mid, Nat.zero_add]
    rw [hj] at h1
    exact h1) (by omega) (by omega)
  obtain ⟨a, b⟩ := Chg.app hap
  exact ⟨v', w', hrun, hs', a, b⟩
/-- Who is followed still. -/
def outL (al : List (Int × Int)) (id : Int) : List (Int × Int) := al.filter fun z => decide (z.1 ≠ id)
theorem filt_step {al : List (Int × Int)} {i : Nat} {y : Int × Int} {id : Int} (hy : al[i]? = some y) : (al.take (i + 1)).filter (fun z => decide (z.1 ≠ id)) = (al.take i).filter (fun z => decide (z.1 ≠ id)) ++ if y.1 = id then [] else [y] := by
  rw [List.take_add_one, hy, List.filter_append]
  congr 1
  show ([y].filter _) = _
  rw [List.filter_cons]
  by_cases e : y.1 = id
  · simp [e]
  · simp [e]
set_option maxRecDepth 100000 in
set_option maxHeartbeats 1000000 in
theorem gone_any (al : List (Int × Int)) (v : Value) (id : Int) (W : World) (h : SwU W v al) (hm : al.length ≤ 1000) :
    Calls Try.prog 22 #[v, I id] W fun e W' => ∃ v', e = .returned v' ∧ SwU W' v' (outL al id) ∧ G W W' ∧ Fresh W v' := by
  obtain ⟨a, c, rfl⟩ := h.form
  have HS := hide h
  have HM := hide hm
  clear h hm
  go_enter Try.func22, Try.ntmps22
  go_wp2_with fail
  go_loopw [6, 5] (fun iv ov wr => ∃ i : Nat, iv = I i ∧ i ≤ al.length ∧ SwU wr ov ((al.take i).filter fun z => decide (z.1 ≠ id)) ∧ G W wr ∧ Fresh W ov) (fun iv _ _ => al.length - (RowKit.intOf iv).toNat)
  case atStart => exact ⟨0, rfl, Nat.zero_le _, Sw.nil _ _ _, G.refl _, fun k e => by simp [Value.ownBlock] at e⟩
  case round =>
    obtain ⟨i, rfl, hik, hs, hg, hfr⟩ := hrel
    by_cases hil : i < al.length
    · obtain ⟨y, hy⟩ : ∃ y, al[i]? = some y := ⟨_, List.getElem?_eq_getElem hil⟩
      obtain ⟨g, cap, q⟩ := HS.out.slice (by omega)
      injection q with q1 q2 q3
      subst q1 q3
      have x1 : wr.cell? ⟨g, i * 2, none⟩ = some (I y.1) := by
        have := (HS.out.G hg).at hy 0 (by decide)
        simpa using this
      have x2 : wr.cell? ⟨g, i * 2 + 1, none⟩ = some (I y.2) := by
        have := (HS.out.G hg).at hy 1 (by decide)
        simpa using this
      have i1 : (i : Int) < al.length := Int.ofNat_lt.2 hil
      have HW : Hid (wrap64 ((i : Int) + 1) = (i : Int) + 1) := by show _ = _; have := HM.out; unfold wrap64; omega
      have HIL := hide hil
      have hst := filt_step (id := id) hy
      by_cases he : y.1 = id
      · have hne : (y.1 != id) = false := by simp [he]
        rw [if_pos he, List.append_nil] at hst
        have HR : Hid (SwU wr u5 ((al.take (i + 1)).filter fun z => decide (z.1 ≠ id)) ∧ G W wr ∧ Fresh W u5) := ⟨by rw [hst]; exact hs, hg, hfr⟩
        clear hik hil hy q2 hg hfr hs hst he
        go_wp2_with fail
        rw [HW.out]
        go_roundw
        case rel => exact ⟨i + 1, rfl, HIL.out, HR.out⟩
        case measure => simp only [RowKit.intOf]; have := HIL.out; omega
      · have hne : (y.1 != id) = true := by simp [he]
        rw [if_neg he] at hst
        have hA := (G.refl wr).alloc (.cells #[I y.1, I y.2] 50)
        have hfl : ((al.take i).filter fun z => decide (z.1 ≠ id)).length ≤ 1000 := Nat.le_trans (List.length_filter_le _ _) (by rw [List.length_take]; have := HM.out; omega)
        obtain ⟨i0, hi0, hz0, hz1, hz2⟩ := info_U
        have hmx : (1001 : Nat) ≤ maxLen := of_decide_eq_true (by kernel_rfl)
        obtain ⟨v', w', hrun, hs', hap⟩ := app_one (P := Try.prog) (ts := 51) i0 _ 16 Try.underlying51 hi0 hz0 hz1 hz2 rfl (by decide) (hs.G hA) ⟨wr.heap.size, 0, none⟩ 1 y (fun j u hj => by
          have h1 := (Blk.new wr [I y.1, I y.2] 50).cell j
          rw [Addr.add_mid, Nat.zero_add]
          rw [hj] at h1
          exact h1) (by omega) (by omega)
        have HRUN := hide hrun
        obtain ⟨hch, hob⟩ := Chg.app hap
        rw [← hst] at hs'
        have hsz := (hg.trans hA).size
        have HR : Hid (∃ u, v' = u ∧ SwU w' u ((al.take (i + 1)).filter fun z => decide (z.1 ≠ id)) ∧ G W w' ∧ Fresh W u) := ⟨v', rfl, hs', ⟨hch.os.trans hg.os, hch.tape.trans hg.tape, hch.output.trans hg.output, Nat.le_trans hsz hch.size, fun k hk => (hch.block k (Nat.lt_of_lt_of_le hk hsz) (fun e => Nat.not_le.2 hk (hfr k e))).trans ((hg.trans hA).block k hk)⟩, fun k e => (hob k e).elim (hfr k) (fun q => Nat.le_trans hsz q)⟩
        clear hik hil hy q2 hg hfr hs hs' hrun hap hch hob hA hsz hi0 hz0 hz1 hz2 hst he hfl hmx
        go_wp2_with (first | (at_builtin; refine wpList_append_run rfl _ _ 51 rfl u5 (.slice (some ⟨wr.heap.size, 0, none⟩) 1 1) rfl rfl HRUN.out ?_) | fail)
        rw [HW.out]
        obtain ⟨u, rfl, r1, r2, r3⟩ := HR.out
        go_roundw
        case rel => exact ⟨i + 1, rfl, HIL.out, r1, r2, r3⟩
        case measure => simp only [RowKit.intOf]; have := HIL.out; omega
    · have i1 : ¬ ((i : Int) < al.length) := by omega
      have e1 : al.take i = al := List.take_of_length_le (by omega)
      rw [e1] at hs
      have HR := hide (And.intro hs (And.intro hg hfr))
      clear hik hil hs hg hfr e1
      go_wp2_with fail
      go_ret
      exact ⟨_, rfl, HR.out.1, HR.out.2.1, HR.out.2.2⟩
/-- What is known between two steps. -/
structure Fz (W wr : World) (b : Nat) (n : Nat) (mo : Int) (cv : Value) (al : List (Int × Int)) (m : GM) (K : Nat → Prop) : Prop where
  p : PG wr b 0 m K
  g : G W wr
  k : ∀ j, K j → W.heap.size ≤ j
  iv : Iv m
  sp : m.sp ≤ n + 1
  ck : m.ck ≤ n
  fa : Fa m al
  mo : m.mo = mo
  c : SwU wr cv al
  fr : Fresh W cv
  no : ∀ j, cv.ownBlock = some j → ¬ K j
theorem Fz.row {W wr : World} {b n : Nat} {mo : Int} {cv : Value} {al : List (Int × Int)} {m : GM} {K : Nat → Prop} (h : Fz W wr b n mo cv al m K) {w' : World} {K' : Nat → Prop} (hs : Ste K wr K' w') : G W w' ∧ (∀ j, K' j → W.heap.size ≤ j) ∧ SwU w' cv al ∧ (∀ j, cv.ownBlock = some j → ¬ K' j) := by
  obtain ⟨a, c⟩ := hs.toG h.g h.k
  refine ⟨a, c, h.c.chg hs.chg h.no, fun j e q => ?_⟩
  rcases hs.nw j q with r | r
  · exact h.no j e r
  · exact Nat.not_le.2 (h.c.lt e) r
theorem Fz.G {W wr w' : World} {b n : Nat} {mo : Int} {cv : Value} {al : List (Int × Int)} {m : GM} {K : Nat → Prop} (h : Fz W wr b n mo cv al m K) (g : Go.Proofs.Ytmclbnhbioficaa.G wr w') : Fz W w' b n mo cv al m K := ⟨h.p.G g, h.g.trans g, h.k, h.iv, h.sp, h.ck, h.fa, h.mo, h.c.G g, h.fr, h.no⟩
/-- How many turns went by is stored, of one alone. -/
theorem SwU.put {w : World} {g n cap : Nat} {al : List (Int × Int)} (h : SwU w (.slice (some ⟨g, 0, none⟩) n cap) al) (i : Nat) (y : Int × Int) (hy : al[i]? = some y) (c : Int) : SwU (w.setCell ⟨g, i * 2 + 1, none⟩ (I c)) (.slice (some ⟨g, 0, none⟩) n cap) (al.set i (y.1, c)) := by
  obtain ⟨rfl, rest, hb, hr⟩ := h.open
  have hi := (List.getElem?_eq_some_iff.1 hy).1
  refine .inr ⟨g, cap, rest, by rw [List.length_set], ?_, by rw [List.length_set]; exact hr⟩
  have h1 := hb.set (i * 2 + 1) (I c)
  have hl : (eQ.fl al).length = al.length * 2 := Enc.len eQ al
  rw [List.set_append_left _ _ (by omega)] at h1
  have e : (eQ.fl al).set (i * 2 + 1) (I c) = eQ.fl (al.set i (y.1, c)) := by
    have es : al = al.take i ++ y :: al.drop (i + 1) := by
      have h2 : al[i] = y := (List.getElem?_eq_some_iff.1 hy).2
      rw [← h2, List.getElem_cons_drop]; exact (List.take_append_drop i al).symm
    have hlt : (eQ.fl (al.take i)).length = i * 2 := by
      have := Enc.len eQ (al.take i)
      rw [List.length_take, Nat.min_eq_left (by omega)] at this
      exact this
    have e2 : al.set i (y.1, c) = al.take i ++ (y.1, c) :: al.drop (i + 1) := by rw [List.set_eq_take_append_cons_drop, if_pos hi]
    rw [e2, Enc.app, Enc.fl_cons]
    conv => lhs; rw [es]
    rw [Enc.app, Enc.fl_cons, List.set_append_right _ _ (by omega), hlt, show i * 2 + 1 - i * 2 = 1 by omega]
    rfl
  rw [e] at h1
  exact h1
/-- While the turns that went by are counted: the first j are done. -/
def midL (al : List (Int × Int)) (id : Int) (j : Nat) : List (Int × Int) := pickL (al.take j) id ++ al.drop j
theorem midL_len (al : List (Int × Int)) (id : Int) (j : Nat) : (midL al id j).length = al.length := by
  unfold midL pickL
  rw [List.length_append, List.length_map, List.length_take, List.length_drop]
  omega
theorem midL_at {al : List (Int × Int)} {id : Int} {j : Nat} {y : Int × Int} (hy : al[j]? = some y) : (midL al id j)[j]? = some y := by
  unfold midL pickL
  have hj := (List.getElem?_eq_some_iff.1 hy).1
  rw [List.getElem?_append_right (by rw [List.length_map, List.length_take]; omega), List.length_map, List.length_take, Nat.min_eq_left (by omega), Nat.sub_self, List.getElem?_drop, Nat.add_zero]
  exact hy
theorem midL_step {al : List (Int × Int)} {id : Int} {j : Nat} {y : Int × Int} (hy : al[j]? = some y) : (midL al id j).set j (y.1, if y.1 = id then 0 else y.2 + 1) = midL al id (j + 1) := by
  have hj := (List.getElem?_eq_some_iff.1 hy).1
  have h2 : al[j] = y := (List.getElem?_eq_some_iff.1 hy).2
  unfold midL pickL
  have hl : ((al.take j).map fun z => if z.1 = id then (z.1, (0 : Int)) else (z.1, z.2 + 1)).length = j := by rw [List.length_map, List.length_take]; omega
  rw [List.set_append_right _ _ (by omega), hl, Nat.sub_self, ← List.getElem_cons_drop hj, List.set_cons_zero, List.take_add_one, hy, List.map_append]
  simp only [Option.toList, List.map_cons, List.map_nil, List.append_assoc, List.singleton_append]
  congr 2
  split <;> rfl
end Go.Proofs.Ytmclbnhbioficaa
