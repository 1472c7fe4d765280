/- Gate: slices.Clone, queuedNumbers, hasRoom, isKnown. -/
import Derived.Test.YtmclbnhbioficacGs3
import Derived.Test.YtmclbnhbioficacGt4
namespace Go.Proofs.Ytmclbnhbioficac
open Go.RowKit

/-- An append of some to a row of whole numbers. -/
theorem app_all {w : World} {v : Value} {l : List Int} (h : SwI w v l) (a : Addr) (c : Nat) (ns : List Int) (hx : ∀ j u, (eI.fl ns)[j]? = some u → w.cell? (a.add j) = some u) (hb : l.length + ns.length ≤ 1000000) :
    ∃ v' w', (Builtin.append_ #[33, 33] 33 #[v, .slice (some a) ns.length c]).run Try.prog w = .ok v' w' ∧ SwI w' v' (l ++ ns) ∧ Chg (fun k => v.ownBlock = some k) w w' ∧ (v'.ownBlock = v.ownBlock ∨ v'.ownBlock = some w.heap.size) := by
  obtain ⟨i0, hi0, hz0, hz1, hz2⟩ := info_I
  have hmx : (1000000 : Nat) ≤ maxLen := of_decide_eq_true (by kernel_rfl)
  obtain ⟨v', w', hr, q2, q3, _, q5⟩ := run_append_own_at (P := Try.prog) w 0 33 33 3 i0 _ 1 8 Try.underlying33 hi0 hz0 hz1 hz2 rfl (by decide) v l.length (eI.fl l) h.row a ns.length c (eI.fl ns) (Enc.len eI ns) hx (Enc.ones eI ns) (by omega) (by omega) (Nat.zero_le _)
  rw [← Enc.app] at q2
  exact ⟨v', w', hr, Sw.of_row (b := 0) q2 (by simp), ⟨q3.os, q3.tape, q3.output, q3.size, fun k hk hn => q3.block k hk (fun e => hn e.symm)⟩, q5⟩
theorem Sw.cellI {w : World} {g n cap : Nat} {l : List Int} (h : SwI w (.slice (some ⟨g, 0, none⟩) n cap) l) : ∀ j u, (eI.fl l)[j]? = some u → w.cell? ((⟨g, 0, none⟩ : Addr).add j) = some u := fun j u hj => by
  obtain ⟨-, rest, hb, -⟩ := h.open
  rw [Addr.add_mid, Nat.zero_add, hb.cell, List.getElem?_append_left (List.getElem?_eq_some_iff.1 hj).1]
  exact hj
theorem eql_nilI (w : World) (a : Option Addr) (n c : Nat) : (binOp .eql 33 (.slice a n c) (.slice none 0 0)).run Try.prog w = .ok (.bool a.isNone) w := by
  have h : ∀ d : Nat, (Op.equalIn (d + 1) 33 (.slice a n c) (.slice none 0 0)).run Try.prog w = .ok a.isNone w := fun d => by
    cases a <;> simp [Op.equalIn, run_underlying Try.underlying33]
  simp only [binOp]
  simp [Op.equal, Op.maxDepth, h 9999]
/-- A list of one's own: whatever it holds came since. -/
def Fresh (W : World) (v : Value) : Prop := ∀ k, v.ownBlock = some k → W.heap.size ≤ k
set_option maxRecDepth 100000 in
set_option maxHeartbeats 1000000 in
theorem clone_any (l : List Int) (v : Value) (W : World) (h : SwI W v l) (hm : l.length ≤ 1000) :
    Calls Try.prog 29 #[v] W fun e W' => ∃ v', e = .returned v' ∧ SwI W' v' l ∧ G W W' ∧ Fresh W v' := by
  rcases h with ⟨rfl, rfl⟩ | ⟨g, cap, rest, rfl, hb, hr, hc, hmx⟩
  · have e0 := eql_nilI W none 0 0
    go_enter Try.func29, Try.ntmps29
    go_wp2
    go_ret
    exact ⟨_, rfl, Sw.nil _ _ _, G.refl _, fun k e => by simp [Value.ownBlock] at e⟩
  · have h : SwI W (.slice (some ⟨g, 0, none⟩) l.length cap) l := .inr ⟨g, cap, rest, rfl, hb, hr, hc, hmx⟩
    have hA := (G.refl W).alloc (.cells #[] 3)
    have h0 : SwI (W.alloc (.cells #[] 3)) (.slice (some ⟨W.heap.size, 0, none⟩) 0 0) [] := .inr ⟨W.heap.size, 0, [], rfl, Blk.new W [] 3, by simp, by simp, Nat.zero_le _⟩
    obtain ⟨v', w', hrun, hs, hch, hob⟩ := app_all h0 ⟨g, 0, none⟩ cap l ((h.G hA).cellI) (by simp; omega)
    have HRUN := hide hrun
    have HFIN : Hid (∃ u, v' = u ∧ SwI w' u l ∧ G W w' ∧ Fresh W u) := ⟨v', rfl, hs, ⟨hch.os, hch.tape, hch.output, Nat.le_trans hA.size hch.size, fun k hk => (hch.block k (Nat.lt_of_lt_of_le hk hA.size) (fun e => by simp [Value.ownBlock] at e; omega)).trans (hA.block k hk)⟩, fun k e => by
      rcases hob with q | q
      · rw [q] at e; simp [Value.ownBlock] at e; omega
      · rw [q] at e; have := Option.some.inj e; simp at this; omega⟩
    clear h h0 hrun hs hch hob hb hr hc hmx hm hA
    have e0 := eql_nilI W (some ⟨g, 0, none⟩) l.length cap
    go_enter Try.func29, Try.ntmps29
    go_wp2_with (first | (at_builtin; refine wpList_append_run rfl _ _ 33 rfl (.slice (some ⟨W.heap.size, 0, none⟩) 0 0) (.slice (some ⟨g, 0, none⟩) l.length cap) rfl rfl HRUN.out ?_) | fail)
    go_ret
    obtain ⟨u, rfl, h1, h2, h3⟩ := HFIN.out
    exact ⟨_, rfl, h1, h2, h3⟩
set_option maxRecDepth 100000 in
set_option maxHeartbeats 1000000 in
theorem qnums_any (b : Nat) (x : Gx) (v : Value) (l : List It) (qs : List (Int × Int)) (W : World) (hp : HP W b x v l) (hq : SwQ W x.vq qs) (hm : qs.length ≤ 1000) :
    Calls Try.prog 30 #[ptr b] W fun e W' => ∃ v', e = .returned v' ∧ SwI W' v' (qs.map (·.1)) ∧ G W W' ∧ Fresh W v' := by
  have hc := hp.cells
  obtain ⟨a, c, hvq⟩ := hq.form
  rw [hvq] at hc hq
  have HS := hide hq
  have HM := hide hm
  clear hp hq hm hvq
  go_enter Try.func30, Try.ntmps30
  go_wp2_with fail
  go_loopw [11, 3, 5] (fun iv ov _ wr => ∃ i : Nat, iv = I i ∧ i ≤ qs.length ∧ SwI wr ov ((qs.take i).map (·.1)) ∧ G W wr ∧ Fresh W ov) (fun iv _ _ _ => qs.length - (RowKit.intOf iv).toNat)
  case atStart => exact ⟨0, rfl, Nat.zero_le _, Sw.nil _ _ _, G.refl _, fun k e => by simp [Value.ownBlock] at e⟩
  case round =>
    obtain ⟨i, rfl, hik, hs, hg, hfr⟩ := hrel
    by_cases hil : i < qs.length
    · obtain ⟨y, hy⟩ : ∃ y, qs[i]? = some y := ⟨_, List.getElem?_eq_getElem hil⟩
      obtain ⟨g, cap, q⟩ := HS.out.slice (by omega)
      injection q with q1 q2 q3
      subst q1 q3
      have x1 : wr.cell? ⟨g, i * 2, none⟩ = some (I y.1) := by
        have := (HS.out.G hg).at hy 0 (by decide)
        simpa using this
      have x2 : wr.cell? ⟨g, i * 2 + 1, none⟩ = some (I y.2) := by
        have := (HS.out.G hg).at hy 1 (by decide)
        simpa using this
      have i1 : (i : Int) < qs.length := Int.ofNat_lt.2 hil
      have HW : Hid (wrap64 ((i : Int) + 1) = (i : Int) + 1) := by show _ = _; have := HM.out; unfold wrap64; omega
      have hA := (G.refl wr).alloc (.cells #[I y.1, I y.2] 81)
      have hA2 := hA.alloc (.cells #[I y.1] 3)
      have HIL := hide hil
      have hz : (wr.alloc (.cells #[I y.1, I y.2] 81)).heap.size = wr.heap.size + 1 := by simp
      obtain ⟨i0, hi0, hz0, hz1, hz2⟩ := info_I
      obtain ⟨v', w', hrun, hs', hap⟩ := app_one (P := Try.prog) (ts := 33) i0 _ 8 Try.underlying33 hi0 hz0 hz1 hz2 rfl (by decide) (hs.G hA2) ⟨wr.heap.size + 1, 0, none⟩ 1 y.1 (fun j u hj => by
        have h1 := (Blk.new (wr.alloc (.cells #[I y.1, I y.2] 81)) [I y.1] 3).cell j
        rw [hz] at h1
        rw [Addr.add_mid, Nat.zero_add]
        rw [hj] at h1
        exact h1) (by rw [List.length_map, List.length_take]; have := HM.out; have hmx : (1001 : Nat) ≤ maxLen := of_decide_eq_true (by kernel_rfl); omega) (by rw [List.length_map, List.length_take]; have := HM.out; omega)
      have HRUN := hide hrun
      obtain ⟨hch, hob⟩ := Chg.app hap
      have e1 : ((qs.take i).map (·.1)) ++ [y.1] = (qs.take (i + 1)).map (·.1) := by
        rw [List.take_add_one, hy, List.map_append]; rfl
      rw [e1] at hs'
      have hsz := (hg.trans hA2).size
      have HR : Hid (∃ u, v' = u ∧ SwI w' u ((qs.take (i + 1)).map (·.1)) ∧ G W w' ∧ Fresh W u) := ⟨v', rfl, hs', ⟨hch.os.trans hg.os, hch.tape.trans hg.tape, hch.output.trans hg.output, Nat.le_trans hsz hch.size, fun k hk => (hch.block k (Nat.lt_of_lt_of_le hk hsz) (fun e => Nat.not_le.2 hk (hfr k e))).trans ((hg.trans hA2).block k hk)⟩, fun k e => (hob k e).elim (hfr k) (fun q => Nat.le_trans hsz q)⟩
      obtain ⟨oa, oc, hof⟩ := hs.form
      have HOF := hide hof
      clear hik hil hy q2 hg hfr hs hs' hrun hap hch hob hA hA2 hsz hof e1 hi0 hz0 hz1 hz2
      go_wp2_with (first | (at_builtin; refine wpList_append_run rfl _ _ 33 rfl u3 (.slice (some ⟨wr.heap.size + 1, 0, none⟩) 1 1) rfl rfl HRUN.out ?_) | fail)
      rw [HW.out]
      obtain ⟨u, rfl, r1, r2, r3⟩ := HR.out
      go_roundw
      case rel => exact ⟨i + 1, rfl, HIL.out, r1, r2, r3⟩
      case measure => simp only [RowKit.intOf]; have := HIL.out; omega
    · have i1 : ¬ ((i : Int) < qs.length) := by omega
      have e1 : qs.take i = qs := List.take_of_length_le (by omega)
      rw [e1] at hs
      have HR := hide (And.intro hs (And.intro hg hfr))
      clear hik hil hs hg hfr e1
      go_wp2_with fail
      go_ret
      exact ⟨_, rfl, HR.out.1, HR.out.2.1, HR.out.2.2⟩
set_option maxRecDepth 100000 in
set_option maxHeartbeats 1000000 in
theorem room_any (b : Nat) (x : Gx) (v : Value) (l : List It) (is : List Int) (W : World) (hp : HP W b x v l) (hi : SwI W x.vi is) (hm : is.length ≤ 1000) (hl0 : 0 ≤ x.lg) (hl1 : x.lg ≤ 1000) :
    Calls Try.prog 16 #[ptr b] W fun e W' => e = .returned (.bool (decide ((is.length : Int) < x.mo) && decide (x.lg + is.length < x.un))) ∧ G W W' := by
  have hc := hp.cells
  obtain ⟨a, c, hvi⟩ := hi.form
  rw [hvi] at hc
  have hw : wrap64 (x.lg + is.length) = x.lg + is.length := by unfold wrap64; omega
  clear hp hi hvi
  by_cases c1 : (is.length : Int) < x.mo
  · have d1 := decide_eq_true c1
    by_cases c2 : x.lg + is.length < x.un
    · have d2 := decide_eq_true c2
      rw [d1, d2]
      go_enter Try.func16, Try.ntmps16
      go_wp2_with fail
      go_quiet (fail)
      go_wp2_with fail
      go_ret
      exact ⟨rfl, (G.refl W).drewN _⟩
    · have d2 := decide_eq_false c2
      rw [d1, d2]
      go_enter Try.func16, Try.ntmps16
      go_wp2_with fail
      go_quiet (fail)
      go_wp2_with fail
      go_ret
      exact ⟨rfl, (G.refl W).drewN _⟩
  · have d1 := decide_eq_false c1
    rw [d1, Bool.false_and]
    go_enter Try.func16, Try.ntmps16
    go_wp2_with fail
    go_quiet (fail)
    go_wp2_with fail
    go_ret
    exact ⟨rfl, (G.refl W).drewN _⟩
end Go.Proofs.Ytmclbnhbioficac
