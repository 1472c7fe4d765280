/- Gate: enter of the turns. -/
import Derived.Test.YtmclbnhbioficacGt3
namespace Go.Proofs.Ytmclbnhbioficac
open Go.RowKit

theorem info_it : ∃ i, Try.prog.info? 78 = some i ∧ i.zero = some (.agg #[I 0, I 0, I 0]) ∧ i.size = 3 ∧ i.bytes = 24 := info_parts (by kernel_rfl)
theorem cell_new (w : World) (xs : List Value) (e : TypeId) : ∀ (j : Nat) (u : Value), xs[j]? = some u → (w.alloc (.cells xs.toArray e)).drew.cell? ((⟨w.heap.size, 0, none⟩ : Addr).add j) = some u := fun j u hj => by
  rw [Addr.add_mid, Nat.zero_add]
  have := (Blk.new w xs e).cell j
  rw [hj] at this
  exact this
theorem app_chg {W W' : World} {v v' : Value} (h : (v'.ownBlock = v.ownBlock ∧ v'.ownBlock ≠ none ∧ Chg (fun k => v.ownBlock = some k) W W') ∨ (v'.ownBlock = some W.heap.size ∧ G W W')) : Chg (fun k => v.ownBlock = some k) W W' := by
  rcases h with h | h
  · exact h.2.2
  · exact h.2.chg
theorem enter_mid {w w7 : World} {b : Nat} {x : Gx} {v v' : Value} {l : List It} {id sp c : Int} (hp : HP w b x v l) (hrow : w7.ownsRow 0 78 3 v' (l.length + 1) (fl l ++ [I id, I sp, I c])) (hc : Chg (fun k => v.ownBlock = some k) w w7) (hob : ∀ k, v'.ownBlock = some k → k ≠ b) :
    HP (w7.setCell ⟨b, 9, none⟩ v') b x v' (l ++ [((id, sp), c)]) := by
  have hb7 : Blk w7 b _ (gcs x v) := hp.blk.chg hc (fun e => hp.ne e rfl)
  refine ⟨hb7.set 9 v', ?_⟩
  have hsl : Sl w7 v' (l ++ [((id, sp), c)]) := Sl.of_row (b := 0) (by rw [fl_snoc, List.length_append]; exact hrow)
  exact hsl.keep fun k hb => Below.heap_setCell _ _ _ _ (hob k hb)
set_option maxRecDepth 100000 in
set_option maxHeartbeats 2000000 in
theorem tenter_any (b : Nat) (x : Gx) (v : Value) (l : List It) (id sp : Int) (W : World) (hp : HP W b x v l) (hm : l.length < 999) :
    Calls Try.prog 35 #[tpt b, I id, I sp] W fun e W' => e = .returned (.tuple #[]) ∧ ∃ v' l', HP W' b x v' l' ∧ l'.Perm (((id, sp), x.ck) :: l) ∧ (Hp.HI gr l → Hp.HI gr l') ∧ Chg (hpB b v) W W' ∧ (∀ k, v'.ownBlock = some k → v.ownBlock = some k ∨ W.heap.size ≤ k) := by
  obtain ⟨va, vc, rfl⟩ : ∃ a c, v = .slice a l.length c := by
    rcases hp.sl with ⟨rfl, rfl⟩ | ⟨g, cap, rest, rfl, _⟩ <;> exact ⟨_, _, rfl⟩
  have hhl := hp.blk.lt
  have HN1 : Hid (l.length + 1 ≤ maxLen) := Nat.le_trans (Nat.succ_le_of_lt hm) (of_decide_eq_true (by kernel_rfl))
  have HN2 : Hid ((l.length + 1) * 24 ≤ 140737488355328) := by show _ ≤ _; omega
  have HN3 : Hid (l.length + 1 ≤ 1000) := by show _ ≤ _; omega
  have HPP := hide hp
  clear hp hm
  go_enter Try.func35, Try.ntmps35
  go_wp2_with fail
  refine wp_region_noPanic ?_
  refine wp_region_L (S := (fun V => (∀ j, V.cell? ⟨b, j, none⟩ = ([.int .i32 x.st, .int .u32 0, I x.mo, I x.un, I x.sp, x.vq, x.vi, I x.lg, I x.ck, .slice va l.length vc] : List Value)[j]?))) 16 (by kernel_rfl) ((HPP.out.G (G.drew (G.refl _))).cells) (fun hHeld => ?_)
  refine wpAnyL_take (i := 0) (v := ?_) rfl (by kernel_rfl) (by kernel_rfl) (by kernel_rfl) (by kernel_rfl) (fun _ _ _ h => h) (Or.inl ⟨by rfl, ?_⟩) hHeld ?_
  rotate_left 1
  · (intro w hSw; (try dsimp only at hSw); go_simp; try with_reducible rfl)
  try simp only [Act.put, List.getElem_toArray, List.getElem_cons_zero, List.setIfInBounds_toArray, List.set_cons_zero, List.set_cons_succ]
  refine wpAnyL_take (i := 1) (v := ?_) rfl (by kernel_rfl) (by kernel_rfl) (by kernel_rfl) (by kernel_rfl) (fun _ _ _ h => h) (Or.inl ⟨by rfl, ?_⟩) hHeld ?_
  rotate_left 1
  · (intro w hSw; (try dsimp only at hSw); go_simp; try with_reducible rfl)
  try simp only [Act.put, List.getElem_toArray, List.getElem_cons_zero, List.getElem_cons_succ, List.setIfInBounds_toArray, List.set_cons_zero, List.set_cons_succ]
  refine wpAnyL_take (i := 2) (v := ?_) rfl (by kernel_rfl) (by kernel_rfl) (by kernel_rfl) (by kernel_rfl) (fun _ _ _ h => h) (Or.inl ⟨by rfl, ?_⟩) hHeld ?_
  rotate_left 1
  · (intro w hSw; (try dsimp only at hSw); go_simp; try with_reducible rfl)
  try simp only [Act.put, List.getElem_toArray, List.getElem_cons_zero, List.getElem_cons_succ, List.setIfInBounds_toArray, List.set_cons_zero, List.set_cons_succ]
  refine wpAnyL_take (i := 3) (v := ?_) rfl (by kernel_rfl) (by kernel_rfl) (by kernel_rfl) (by kernel_rfl) (fun _ _ _ h => h) (Or.inl ⟨by rfl, ?_⟩) hHeld ?_
  rotate_left 1
  · (intro w hSw; (try dsimp only at hSw); go_simp; try with_reducible rfl)
  try simp only [Act.put, List.getElem_toArray, List.getElem_cons_zero, List.getElem_cons_succ, List.setIfInBounds_toArray, List.set_cons_zero, List.set_cons_succ]
  refine wpAnyL_take (i := 4) (v := ?_) rfl (by kernel_rfl) (by kernel_rfl) (by kernel_rfl) (by kernel_rfl) (fun _ _ _ h => h) (Or.inl ⟨by rfl, ?_⟩) hHeld ?_
  rotate_left 1
  · (intro w hSw; have q1 := hSw; go_simp; try with_reducible rfl)
  try simp only [Act.put, List.getElem_toArray, List.getElem_cons_zero, List.getElem_cons_succ, List.setIfInBounds_toArray, List.set_cons_zero, List.set_cons_succ]
  refine wpAnyL_take (i := 5) (v := ?_) rfl (by kernel_rfl) (by kernel_rfl) (by kernel_rfl) (by kernel_rfl) (fun _ _ _ h => h) (Or.inl ⟨by rfl, ?_⟩) hHeld ?_
  rotate_left 1
  · (intro w hSw; (try dsimp only at hSw); go_simp; try with_reducible rfl)
  try simp only [Act.put, List.getElem_toArray, List.getElem_cons_zero, List.getElem_cons_succ, List.setIfInBounds_toArray, List.set_cons_zero, List.set_cons_succ]
  refine wpAnyL_take (i := 6) (v := ?_) rfl (by kernel_rfl) (by kernel_rfl) (by kernel_rfl) (by kernel_rfl) (fun _ _ _ h => h) (Or.inl ⟨by rfl, ?_⟩) hHeld ?_
  rotate_left 1
  · (intro w hSw; (try dsimp only at hSw); go_simp; try with_reducible rfl)
  try simp only [Act.put, List.getElem_toArray, List.getElem_cons_zero, List.getElem_cons_succ, List.setIfInBounds_toArray, List.set_cons_zero, List.set_cons_succ]
  refine wpAnyL_take (i := 7) (v := ?_) rfl (by kernel_rfl) (by kernel_rfl) (by kernel_rfl) (by kernel_rfl) (fun _ _ _ h => h) (Or.inl ⟨by rfl, ?_⟩) hHeld ?_
  rotate_left 1
  · (intro w hSw; (try dsimp only at hSw); go_simp; try with_reducible rfl)
  try simp only [Act.put, List.getElem_toArray, List.getElem_cons_zero, List.getElem_cons_succ, List.setIfInBounds_toArray, List.set_cons_zero, List.set_cons_succ]
  refine wpAnyL_take (i := 8) (v := ?_) rfl (by kernel_rfl) (by kernel_rfl) (by kernel_rfl) (by kernel_rfl) (fun _ _ _ h => h) (Or.inl ⟨by rfl, ?_⟩) hHeld ?_
  rotate_left 1
  · (intro w hSw; (try dsimp only at hSw); go_simp; try with_reducible rfl)
  try simp only [Act.put, List.getElem_toArray, List.getElem_cons_zero, List.getElem_cons_succ, List.setIfInBounds_toArray, List.set_cons_zero, List.set_cons_succ]
  refine wpAnyL_take (i := 9) (v := ?_) rfl (by kernel_rfl) (by kernel_rfl) (by kernel_rfl) (by kernel_rfl) (fun _ _ _ h => h) (Or.inl ⟨by rfl, ?_⟩) hHeld ?_
  rotate_left 1
  · (intro w hSw; (try dsimp only at hSw); go_simp; try with_reducible rfl)
  try simp only [Act.put, List.getElem_toArray, List.getElem_cons_zero, List.getElem_cons_succ, List.setIfInBounds_toArray, List.set_cons_zero, List.set_cons_succ]
  refine wpAnyL_take (i := 10) (v := ?_) rfl (by kernel_rfl) (by kernel_rfl) (by kernel_rfl) (by kernel_rfl) (fun _ _ _ h => h) (Or.inl ⟨by rfl, ?_⟩) hHeld ?_
  rotate_left 1
  · (intro w hSw; have q1 := hSw; go_simp; try with_reducible rfl)
  try simp only [Act.put, List.getElem_toArray, List.getElem_cons_zero, List.getElem_cons_succ, List.setIfInBounds_toArray, List.set_cons_zero, List.set_cons_succ]
  refine wpAnyL_take (i := 11) (v := ?_) rfl (by kernel_rfl) (by kernel_rfl) (by kernel_rfl) (by kernel_rfl) (fun _ _ _ h => h) (Or.inl ⟨by rfl, ?_⟩) hHeld ?_
  rotate_left 1
  · (intro w hSw; (try dsimp only at hSw); go_simp; try with_reducible rfl)
  try simp only [Act.put, List.getElem_toArray, List.getElem_cons_zero, List.getElem_cons_succ, List.setIfInBounds_toArray, List.set_cons_zero, List.set_cons_succ]
  refine wpAnyL_one (i := 12) (by kernel_rfl) rfl (by kernel_rfl) (fun K hK => ?_)
  clear hHeld
  go_simp
  have HG6 : Hid (G W (W.alloc (.cells #[I id, I sp, I x.ck] 78)).drew) := ((G.refl W).alloc _).drew
  have HC6 : Hid (∀ j u, ([I id, I sp, I x.ck] : List Value)[j]? = some u → (W.alloc (.cells #[I id, I sp, I x.ck] 78)).drew.cell? ((⟨W.heap.size, 0, none⟩ : Addr).add j) = some u) := cell_new W [I id, I sp, I x.ck] 78
  generalize (W.alloc (.cells #[I id, I sp, I x.ck] 78)).drew = w6 at HG6 HC6 ⊢
  refine hK.out _ _ ((HPP.out.G HG6.out).cells) (fun hHeld => ?_)
  clear hK K
  try simp only [Act.put, List.getElem_toArray, List.getElem_cons_zero, List.getElem_cons_succ, List.setIfInBounds_toArray, List.set_cons_zero, List.set_cons_succ]
  refine wpAnyL_one (i := 13) (by kernel_rfl) rfl (by kernel_rfl) (fun K hK => ?_)
  clear hHeld
  obtain ⟨i0, hi0, hz0, hz1, hz2⟩ := info_it
  obtain ⟨v7, w7, hrun, hrow7, hap7⟩ := app_stay (P := Try.prog) w6 0 45 45 78 i0 _ 3 24 Try.underlying45 hi0 hz0 hz1 hz2 rfl (by decide) (.slice va l.length vc) l.length (fl l) (HPP.out.G HG6.out).sl.row ⟨W.heap.size, 0, none⟩ 1 [I id, I sp, I x.ck] rfl HC6.out (fun u hu => by simp at hu; rcases hu with rfl | rfl | rfl <;> rfl) HN1.out HN2.out (Nat.zero_le _)
  obtain ⟨g7, c7, rfl⟩ := own_block hrow7 (Nat.succ_pos _)
  have HAP := hide hap7
  have HRW := hide hrow7
  clear hap7 hrow7 hi0 hz0 hz1 hz2
  refine (if_pos rfl).mpr ?_
  refine wp_of_exec (exec_append _ _ 45 rfl (.slice va l.length vc) (.slice (some ⟨W.heap.size, 0, none⟩) 1 1) rfl rfl 45 rfl hrun) ?_
  clear hrun
  have HC7 := hide (app_chg HAP.out)
  have HNB : Hid (¬ ((Value.slice va l.length vc).ownBlock = some b)) := fun e => (HPP.out.G HG6.out).ne e rfl
  refine hK.out _ _ (((HPP.out.G HG6.out).blk.chg HC7.out HNB.out).cell) (fun hHeld => ?_)
  clear hK K
  try simp only [Act.put, List.getElem_toArray, List.getElem_cons_zero, List.getElem_cons_succ, List.setIfInBounds_toArray, List.set_cons_zero, List.set_cons_succ]
  refine wpAnyL_take2 15 (i := 14) (v := ?_) rfl (by kernel_rfl) (by kernel_rfl) (by kernel_rfl) (by kernel_rfl) (fun _ _ _ h => h) (Or.inl ⟨by rfl, ?_⟩) hHeld ?_
  rotate_left 1
  · (intro w hSw; (try dsimp only at hSw); go_simp; try with_reducible rfl)
  try simp only [Act.put, List.getElem_toArray, List.getElem_cons_zero, List.getElem_cons_succ, List.setIfInBounds_toArray, List.set_cons_zero, List.set_cons_succ]
  refine wpAnyL_take (i := 15) (v := ?_) rfl (by kernel_rfl) (by kernel_rfl) (by kernel_rfl) (by kernel_rfl) (fun _ _ _ h => h) (Or.inl ⟨by rfl, ?_⟩) hHeld ?_
  rotate_left 1
  · (intro w hSw; (try dsimp only at hSw); go_simp; try with_reducible rfl)
  try simp only [Act.put, List.getElem_toArray, List.getElem_cons_zero, List.getElem_cons_succ, List.setIfInBounds_toArray, List.set_cons_zero, List.set_cons_succ]
  refine wpAnyL_last (by kernel_rfl) rfl (by kernel_rfl) (fun K hK => ?_)
  clear hHeld
  have hc7 : ∀ j, w7.cell? ⟨b, j, none⟩ = ([.int .i32 x.st, .int .u32 0, I x.mo, I x.un, I x.sp, x.vq, x.vi, I x.lg, I x.ck, .slice va l.length vc] : List Value)[j]? := ((HPP.out.G HG6.out).blk.chg HC7.out HNB.out).cell
  have hz7 := ((HPP.out.G HG6.out).blk.chg HC7.out HNB.out).frozen
  go_simp
  refine hK.out _ _ ?_
  clear hK K
  refine NoPanic.normal ?_
  have hob : ∀ k, (Value.slice (some ⟨g7, 0, none⟩) (l.length + 1) c7).ownBlock = some k → k ≠ b := fun k hb => by
    rcases HAP.out with q | q
    · rw [q.1] at hb; exact (HPP.out.G HG6.out).ne hb
    · rw [q.1] at hb
      have h1 := (HPP.out.G HG6.out).blk.lt
      have h2 := Option.some.inj hb
      omega
  have HMID := hide (enter_mid (HPP.out.G HG6.out) HRW.out HC7.out hob)
  have HCH : Hid (Chg (hpB b (.slice va l.length vc)) W (w7.setCell ⟨b, 9, none⟩ (.slice (some ⟨g7, 0, none⟩) (l.length + 1) c7))) :=
    (((HG6.out).chg (F := hpB b (.slice va l.length vc))).trans (HC7.out.mono (fun b e => .inr e))).trans (chg_setCell (F := hpB b (.slice va l.length vc)) _ _ (.inl (.inl rfl)))
  have HOB : Hid (∀ k, (Value.slice (some ⟨g7, 0, none⟩) (l.length + 1) c7).ownBlock = some k → (Value.slice va l.length vc).ownBlock = some k ∨ W.heap.size ≤ k) := fun k hb => by
    rcases HAP.out with q | q
    · rw [q.1] at hb; exact .inl hb
    · rw [q.1] at hb
      have h2 := Option.some.inj hb
      have := (HG6.out).size
      exact .inr (by omega)
  clear hob HAP HRW HC7 HNB HC6 HG6 HPP hhl
  have hc8 := HMID.out.cells
  generalize w7.setCell ⟨b, 9, none⟩ (.slice (some ⟨g7, 0, none⟩) (l.length + 1) c7) = w8 at hc8 HMID HCH ⊢
  have hw2 : wrap64 (l.length : Int) = l.length := by unfold wrap64; have := HN2.out; omega
  have HRI := hide (rise_any b x (.slice (some ⟨g7, 0, none⟩) (l.length + 1) c7) (l ++ [((id, sp), x.ck)]) l.length w8 HMID.out (by simp) (by rw [List.length_append]; exact HN3.out))
  clear HMID HN1 HN2 HN3
  go_wp2_with fail
  refine HRI.out.mono ?_
  rintro e w9 ⟨rfl, l', hp9, hperm, hhi, -, hch9⟩
  go_wp2_with fail
  go_end0
  refine ⟨rfl, _, l', hp9, hperm.trans (List.perm_append_singleton _ _), fun q => hhi (q.push _), ?_, HOB.out⟩
  refine HCH.out.more hch9 (fun i hi q => ?_)
  rcases q with q | q
  · exact .inl q
  · rcases HOB.out i q with r | r
    · exact .inr r
    · omega
end Go.Proofs.Ytmclbnhbioficac
