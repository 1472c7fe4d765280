/- Locks: the book's End. -/
import Derived.Test.YtkbgifhhnnfgoaaGreatDoorLk71
namespace Go.Proofs.YtkbgifhhnnfgoaaGreatDoor
section
open Go.RowKit

def gC (a : Int × Int × Rs) : List Value := [I a.1, I a.2.1, I a.2.2.lv, .string a.2.2.lb, I a.2.2.id]
def gc (l : List (Int × Int × Rs)) : List Value := l.flatMap gC
theorem gc_snoc (l : List (Int × Int × Rs)) (a : Int × Int × Rs) : gc (l ++ [a]) = gc l ++ gC a := by simp [gc]
theorem gc_at : ∀ (l : List (Int × Int × Rs)) (n : Nat) (a : Int × Int × Rs) (j : Nat), l[n]? = some a → j < 5 → (gc l)[n * 5 + j]? = (gC a)[j]?
  | [], n, a, j, h, _ => by simp at h
  | c :: l, 0, a, j, h, hj => by
    simp at h
    subst h
    show (gC c ++ gc l)[0 * 5 + j]? = _
    rw [Nat.zero_mul, Nat.zero_add, List.getElem?_append_left (by simp [gC]; omega)]
  | c :: l, n + 1, a, j, h, hj => by
    have h1 := gc_at l n a j (by simpa using h) hj
    show (gC c ++ gc l)[(n + 1) * 5 + j]? = _
    rw [List.getElem?_append_right (by simp [gC]; omega)]
    have e : (n + 1) * 5 + j - (gC c).length = n * 5 + j := by simp [gC]; omega
    rw [e]; exact h1
theorem gc_cell {w : World} {lo : Nat} {va : Option Addr} {vn vc : Nat} {l : List (Int × Int × Rs)} (h : w.ownsRow lo 84 5 (.slice va vn vc) l.length (gc l)) {n : Nat} {a : Int × Int × Rs} (ha : l[n]? = some a) : ∃ ga, va = some ⟨ga, 0, none⟩ ∧ ∀ j, j < 5 → w.cell? ⟨ga, n * 5 + j, none⟩ = (gC a)[j]? := by
  have hlt := (List.getElem?_eq_some_iff.1 ha).1
  rcases h.2 with ⟨e, e2⟩ | ⟨ga, cap, cur, e, -⟩
  · omega
  · have e3 : va = some ⟨ga, 0, none⟩ := by cases e; rfl
    rw [e] at h
    exact ⟨ga, e3, fun j hj => by rw [h.cellAt _ (by omega)]; exact gc_at l n a j ha hj⟩
theorem app_gol (w7 : World) (lo : Nat) (u : Value) (l : List (Int × Int × Rs)) (a : Int × Int × Rs) (hu : w7.ownsRow lo 84 5 u l.length (gc l)) (hl : l.length < 2199023255552) (hlo : lo ≤ w7.heap.size) :
    ∃ v' w9, (Builtin.append_ #[81, 81] 81 #[u, .slice (some ⟨w7.heap.size, 0, none⟩) 1 1]).run Tryz.prog (w7.alloc (.cells #[I a.1, I a.2.1, I a.2.2.lv, .string a.2.2.lb, I a.2.2.id] 84)) = .ok v' w9 ∧ w9.ownsRow lo 84 5 v' (l ++ [a]).length (gc (l ++ [a])) ∧ (w7.alloc (.cells #[I a.1, I a.2.1, I a.2.2.lv, .string a.2.2.lb, I a.2.2.id] 84)).grownBy w9 u.ownBlock := by
  obtain ⟨i0, hi, hz0, hz1, hz2⟩ := info_parts (show (Tryz.prog.info? 84).map (fun i => (i.zero, i.size, i.bytes)) = some (some (.agg #[.int .i64 0, .int .i64 0, .int .i64 0, .string ByteArray.empty, .int .i64 0]), 5, 48) from by kernel_rfl)
  have hmx : (2199023255553 : Nat) ≤ maxLen := of_decide_eq_true (by kernel_rfl)
  have gA : G w7 (w7.alloc (.cells #[I a.1, I a.2.1, I a.2.2.lv, .string a.2.2.lb, I a.2.2.id] 84)) := (G.refl w7).alloc _
  have hb := (Blk.new w7 (gC a) 84)
  have hu2 : (w7.alloc (.cells #[I a.1, I a.2.1, I a.2.2.lv, .string a.2.2.lb, I a.2.2.id] 84)).ownsRow lo 84 5 u l.length (gc l) := own_G hu gA
  obtain ⟨v', w9, q1, q2, q3, -, -⟩ := run_append_own_at (P := Tryz.prog) (w := w7.alloc (.cells #[I a.1, I a.2.1, I a.2.2.lv, .string a.2.2.lb, I a.2.2.id] 84)) lo 81 81 84 i0 _ 5 48 Tryz.underlying81 hi hz0 hz1 hz2 rfl (by decide) u _ _ hu2 ⟨w7.heap.size, 0, none⟩ 1 1 (gC a) (by simp [gC]) (fun j u hj => by
    have := hb.cell j
    rw [hj] at this
    rw [Addr.add_mid, Nat.zero_add]; exact this) (fun u hu => by simp [gC] at hu; rcases hu with rfl | rfl | rfl | rfl | rfl <;> rfl) (by omega) (by omega) (Nat.le_trans hlo gA.size)
  refine ⟨v', w9, q1, ?_, q3⟩
  rw [gc_snoc, List.length_append]
  exact q2
/-- Who waits, for what. -/
noncomputable def golB (m : Ms) (x : Int) : Option (Int × Int × Rs) := match m.lv x with | some p => if p.goal = 0 then none else some (x, p.goal, p.at_) | none => none
noncomputable def golL (m : Ms) (live : List (Int × Int)) : List (Int × Int × Rs) := live.filterMap fun a => golB m a.1
section
variable {m : Ms} {live : List (Int × Int)} {n : Nat} {a : Int × Int} {p : Pm}
theorem golL_no (h : live[n]? = some a) (hp : m.lv a.1 = some p) (hg : p.goal = 0) : golL m (live.take (n + 1)) = golL m (live.take n) := by
  have e : golB m a.1 = none := by unfold golB; rw [hp]; simp [hg]
  unfold golL
  rw [List.take_add_one, h, List.filterMap_append]
  simp [e]
theorem golL_yes (h : live[n]? = some a) (hp : m.lv a.1 = some p) (hg : p.goal ≠ 0) : golL m (live.take (n + 1)) = golL m (live.take n) ++ [(a.1, p.goal, p.at_)] := by
  have e : golB m a.1 = some (a.1, p.goal, p.at_) := by unfold golB; rw [hp]; simp [hg]
  unfold golL
  rw [List.take_add_one, h, List.filterMap_append]
  simp [e]
theorem golL_len (m : Ms) (live : List (Int × Int)) : (golL m live).length ≤ live.length := List.length_filterMap_le _ _
theorem golL_mem {c : Int × Int × Rs} (h : c ∈ golL m live) : ∃ p, m.lv c.1 = some p ∧ p.goal ≠ 0 ∧ c.2.1 = p.goal ∧ c.2.2 = p.at_ := by
  obtain ⟨a, ha, hc⟩ := List.mem_filterMap.1 h
  unfold golB at hc
  split at hc
  · rename_i p hp
    split at hc
    · cases hc
    · rename_i hg
      cases hc
      exact ⟨p, hp, hg, rfl, rfl⟩
  · cases hc
theorem golL_has (hb : Bk m live) {y : Int} (hp : m.lv y = some p) (hg : p.goal ≠ 0) : (y, p.goal, p.at_) ∈ golL m live :=
  List.mem_filterMap.2 ⟨(y, p.stamp), (hb.mem y p.stamp).2 ⟨p, hp, rfl⟩, by unfold golB; simp [hp, hg]⟩
end
theorem EndK.nodup {m m' : Ms} {x : Int} {p : Pm} {out : List Int} (h : EndK m x p out m') : out.Nodup := by
  obtain ⟨rs, -, -, -, -, hn, -⟩ := h
  exact hn
/-- Was its goal noted? -/
def hadB (y : Int) (l : List (Int × Int × Rs)) : Bool := l.any fun a => a.1 == y
theorem hadB_yes {y : Int} {l : List (Int × Int × Rs)} {n : Nat} {a : Int × Int × Rs} (h : l[n]? = some a) (e : a.1 = y) : hadB y (l.take (n + 1)) = true := by
  unfold hadB
  rw [List.take_add_one, h, List.any_append]
  simp [e]
theorem hadB_no {y : Int} {l : List (Int × Int × Rs)} {n : Nat} {a : Int × Int × Rs} (h : l[n]? = some a) (e : a.1 ≠ y) : hadB y (l.take (n + 1)) = hadB y (l.take n) := by
  unfold hadB
  rw [List.take_add_one, h, List.any_append]
  simp [e]
theorem hadB_mem {y : Int} {l : List (Int × Int × Rs)} {a : Int × Int × Rs} (h : a ∈ l) (e : a.1 = y) : hadB y l = true := by
  unfold hadB
  rw [List.any_eq_true]
  exact ⟨a, h, by simp [e]⟩
end
open Go.RowKit

set_option maxRecDepth 100000 in
set_option maxHeartbeats 2000000 in
theorem end_ld {W0 w : World} {b t lo : Nat} {s : Gs} {m : Ms} {live : List (Int × Int)} {res : List Rs} {va vr : Value} {L : List Int} {LR : List Rs} (h : Ld W0 w b t lo s m live res va vr L LR) (hbk : Bk m live) {x : Int} {p : Pm} (hp : m.lv x = some p) (hL : L.length < 2000000000000) (hLR : LR.length < 2000000000000) :
    Calls Tryz.prog 24 #[ptr b, I x] w (StepP W0 b t lo (noX x live) res.length L LR) := by
  obtain ⟨aa, ac, rfl⟩ := h.sg.lf.form
  have H := hide h; have HBK := hide hbk; have HP := hide hp; have HL := hide hL; have HLR := hide hLR
  clear h hbk hp hL hLR
  go_enter Tryz.func24, Tryz.ntmps24
  go_wp2_with (first | (go_at_call 18; refine Hid.out ?_) | fail)
  unfold Hid
  refine (hurt_any b t s m L LR _ vr lo live w H.out.gt H.out.sg.blk H.out.sg.lf HBK.out).mono ?_
  rintro e w2 ⟨hv, rfl, hrow2, hg2⟩
  have hhl := hurtL_len m live
  generalize hhe : hurtL m live = hs at hrow2 hhl
  obtain ⟨ha, hc, rfl⟩ := row_form hrow2
  have HH2 : Hid (Ld W0 w2 b t lo s m live res (.slice aa live.length ac) vr L LR ∧ w2.ownsRow w.heap.size 3 1 (.slice ha hs.length hc) hs.length (hs.map fun z => I z) ∧ hs.length ≤ live.length ∧ (∀ k, (Value.slice ha hs.length hc).ownBlock = some k → s.own k = none ∧ k ≠ b)) := by
    refine ⟨H.out.G hg2, hrow2, hhl, fun k hk => ?_⟩
    have h1 := (World.ownsRow.lt hrow2 k hk).1
    exact ⟨H.out.gt.tt.fresh (by omega), by have := H.out.sg.blk.lt; omega⟩
  clear hrow2 hg2 hhe hhl H
  go_wp2_with fail
  go_loopw [6, 7] (fun gv iv wr => ∃ n : Nat, n ≤ live.length ∧ iv = I (n : Int) ∧ wr.ownsRow w2.heap.size 84 5 gv (golL m (live.take n)).length (gc (golL m (live.take n))) ∧ G w2 wr) (fun _ iv _ => live.length - (RowKit.intOf iv).toNat)
  case atStart => exact ⟨0, Nat.zero_le _, rfl, ⟨rfl, .inl ⟨rfl, rfl⟩⟩, G.refl _⟩
  case round =>
    obtain ⟨n, hn, rfl, hrow, hgw⟩ := hrel
    have hLd := HH2.out.1.G hgw
    have hbc := hLd.sg.blk.cell
    by_cases hlt : n < live.length
    · obtain ⟨⟨c1, c2⟩, hc1⟩ : ∃ a, live[n]? = some a := ⟨_, List.getElem?_eq_getElem hlt⟩
      obtain ⟨p1, hp1, -⟩ := (HBK.out.mem c1 c2).1 (List.mem_of_getElem? hc1)
      obtain ⟨ga, hga, k1, -⟩ := hLd.sg.lf.at hc1
      subst hga
      have hnI : (n : Int) < (live.length : Int) := by omega
      have hwn : wrap64 ((n : Int) + 1) = (n : Int) + 1 := by have := hLd.sg.lf.2; unfold wrap64; omega
      have HWN := hide hwn
      have hlen : (golL m (live.take n)).length < 2199023255552 := by
        have h1 := golL_len m (live.take n)
        have h2 := hLd.sg.lf.2
        rw [List.length_take] at h1
        omega
      obtain ⟨gva, gvc, rfl⟩ := row_form hrow
      have HCW : Hid (∀ U, G w2 U → (∀ o, U.cell? ⟨b, o, none⟩ = ([ptr t, .slice (some ⟨ga, 0, none⟩) live.length ac, vr] : List Value)[o]?) ∧ U.cell? ⟨ga, n * 2, none⟩ = some (I c1)) := fun U gU => by
        have hU := HH2.out.1.G gU
        refine ⟨hU.sg.blk.cell, ?_⟩
        obtain ⟨gb, hgb, k, -⟩ := hU.sg.lf.at hc1
        have e : ga = gb := by simpa using hgb
        rw [e]; exact k
      have HCC : Hid (∀ U, G wr U → (∀ o, U.cell? ⟨b, o, none⟩ = ([ptr t, .slice (some ⟨ga, 0, none⟩) live.length ac, vr] : List Value)[o]?) ∧ U.cell? ⟨ga, n * 2, none⟩ = some (I c1)) := fun U gU => HCW.out U (hgw.trans gU)
      have KW : Hid (∀ U, G wr U → Calls Tryz.prog 16 #[ptr t, I c1] U fun e w' => e = .returned (.tuple #[.agg #[I p1.at_.lv, .string p1.at_.lb, I p1.at_.id], I p1.goal, I 0]) ∧ G U w') := fun U gU => waiting_t ((HH2.out.1.gt.G hgw).G gU) hp1
      have HGW := hide hgw; have HROW := hide hrow; have HC := hide hc1; have HLT := hide hlt; have HLEN := hide hlen; have HP1 := hide hp1
      clear hLd hgw hrow hc1 hlt hlen hn hwn hp1
      go_wp2_with fail
      go_upto_region 6 with fail
      clear hbc k1
      refine wp_region_noPanic ?_
      refine wp_region_held_drew (S := (fun U => G wr U)) (by kernel_rfl) ((G.refl wr).drew) (fun hHeld => ?_)
      refine wpAnyH_take (i := 0) (v := ?_) rfl (by kernel_rfl) (by kernel_rfl) (by kernel_rfl) (fun _ _ _ h => h) (Or.inl ⟨by rfl, ?_⟩) hHeld ?_
      rotate_left 1
      · (intro w hSw; obtain ⟨q1, q2⟩ := HCC.out _ hSw; go_simp; try with_reducible rfl)
      try simp only [Act.put, List.getElem_toArray, List.getElem_cons_zero, List.setIfInBounds_toArray, List.set_cons_zero, List.set_cons_succ]
      refine wpAnyH_take (i := 1) (v := ?_) rfl (by kernel_rfl) (by kernel_rfl) (by kernel_rfl) (fun _ _ _ h => h) (Or.inl ⟨by rfl, ?_⟩) hHeld ?_
      rotate_left 1
      · (intro w hSw; obtain ⟨q1, q2⟩ := HCC.out _ hSw; go_simp; try with_reducible rfl)
      try simp only [Act.put, List.getElem_toArray, List.getElem_cons_zero, List.getElem_cons_succ, List.setIfInBounds_toArray, List.set_cons_zero, List.set_cons_succ]
      refine wpAnyH_take (i := 2) (v := ?_) rfl (by kernel_rfl) (by kernel_rfl) (by kernel_rfl) (fun _ _ _ h => h) (Or.inl ⟨by rfl, ?_⟩) hHeld ?_
      rotate_left 1
      · (intro w hSw; obtain ⟨q1, q2⟩ := HCC.out _ hSw; go_simp; try with_reducible rfl)
      try simp only [Act.put, List.getElem_toArray, List.getElem_cons_zero, List.getElem_cons_succ, List.setIfInBounds_toArray, List.set_cons_zero, List.set_cons_succ]
      refine wpAnyH_take (i := 3) (v := ?_) rfl (by kernel_rfl) (by kernel_rfl) (by kernel_rfl) (fun _ _ _ h => h) (Or.inl ⟨by rfl, ?_⟩) hHeld ?_
      rotate_left 1
      · (intro w hSw; obtain ⟨q1, q2⟩ := HCC.out _ hSw; go_simp; try with_reducible rfl)
      try simp only [Act.put, List.getElem_toArray, List.getElem_cons_zero, List.getElem_cons_succ, List.setIfInBounds_toArray, List.set_cons_zero, List.set_cons_succ]
      refine wpAnyH_take (i := 4) (v := ?_) rfl (by kernel_rfl) (by kernel_rfl) (by kernel_rfl) (fun _ _ _ h => h) (Or.inl ⟨by rfl, ?_⟩) hHeld ?_
      rotate_left 1
      · (intro w hSw; obtain ⟨q1, q2⟩ := HCC.out _ hSw; go_simp; try with_reducible rfl)
      try simp only [Act.put, List.getElem_toArray, List.getElem_cons_zero, List.getElem_cons_succ, List.setIfInBounds_toArray, List.set_cons_zero, List.set_cons_succ]
      refine wpAnyH_take (i := 5) (v := ?_) rfl (by kernel_rfl) (by kernel_rfl) (by kernel_rfl) (fun _ _ _ h => h) (Or.inl ⟨by rfl, ?_⟩) hHeld ?_
      rotate_left 1
      · (intro w hSw; obtain ⟨q1, q2⟩ := HCC.out _ hSw; go_simp; try with_reducible rfl)
      try simp only [Act.put, List.getElem_toArray, List.getElem_cons_zero, List.getElem_cons_succ, List.setIfInBounds_toArray, List.set_cons_zero, List.set_cons_succ]
      refine wpAnyH_take (i := 6) (v := ?_) rfl (by kernel_rfl) (by kernel_rfl) (by kernel_rfl) (fun _ _ _ h => h) (Or.inl ⟨by rfl, ?_⟩) hHeld ?_
      rotate_left 1
      · (intro w hSw; obtain ⟨q1, q2⟩ := HCC.out _ hSw; go_simp; try with_reducible rfl)
      try simp only [Act.put, List.getElem_toArray, List.getElem_cons_zero, List.getElem_cons_succ, List.setIfInBounds_toArray, List.set_cons_zero, List.set_cons_succ]
      refine wpAnyH_take (i := 7) (v := ?_) rfl (by kernel_rfl) (by kernel_rfl) (by kernel_rfl) (fun _ _ _ h => h) (Or.inl ⟨by rfl, ?_⟩) hHeld ?_
      rotate_left 1
      · (intro w hSw; obtain ⟨q1, q2⟩ := HCC.out _ hSw; go_simp; try with_reducible rfl)
      try simp only [Act.put, List.getElem_toArray, List.getElem_cons_zero, List.getElem_cons_succ, List.setIfInBounds_toArray, List.set_cons_zero, List.set_cons_succ]
      refine wpAnyH_take (i := 8) (v := ?_) rfl (by kernel_rfl) (by kernel_rfl) (by kernel_rfl) (fun _ _ _ h => h) (Or.inl ⟨by rfl, ?_⟩) hHeld ?_
      rotate_left 1
      · (intro w hSw; obtain ⟨q1, q2⟩ := HCC.out _ hSw; go_simp; try with_reducible rfl)
      try simp only [Act.put, List.getElem_toArray, List.getElem_cons_zero, List.getElem_cons_succ, List.setIfInBounds_toArray, List.set_cons_zero, List.set_cons_succ]
      refine wpAnyH_take (i := 9) (v := ?_) rfl (by kernel_rfl) (by kernel_rfl) (by kernel_rfl) (fun _ _ _ h => h) (Or.inl ⟨by rfl, ?_⟩) hHeld ?_
      rotate_left 1
      · (intro w hSw; obtain ⟨q1, q2⟩ := HCC.out _ hSw; go_simp; try with_reducible rfl)
      try simp only [Act.put, List.getElem_toArray, List.getElem_cons_zero, List.getElem_cons_succ, List.setIfInBounds_toArray, List.set_cons_zero, List.set_cons_succ]
      refine wpAnyH_take (i := 10) (v := ?_) rfl (by kernel_rfl) (by kernel_rfl) (by kernel_rfl) (fun _ _ _ h => h) (Or.inl ⟨by rfl, ?_⟩) hHeld ?_
      rotate_left 1
      · (intro w hSw; obtain ⟨q1, q2⟩ := HCC.out _ hSw; go_simp; try with_reducible rfl)
      try simp only [Act.put, List.getElem_toArray, List.getElem_cons_zero, List.getElem_cons_succ, List.setIfInBounds_toArray, List.set_cons_zero, List.set_cons_succ]
      refine wpAnyH_take (i := 11) (v := ?_) rfl (by kernel_rfl) (by kernel_rfl) (by kernel_rfl) (fun _ _ _ h => h) (Or.inl ⟨by rfl, ?_⟩) hHeld ?_
      rotate_left 1
      · (intro w hSw; obtain ⟨q1, q2⟩ := HCC.out _ hSw; go_simp; try with_reducible rfl)
      try simp only [Act.put, List.getElem_toArray, List.getElem_cons_zero, List.getElem_cons_succ, List.setIfInBounds_toArray, List.set_cons_zero, List.set_cons_succ]
      refine wpAnyH_ready (rs := [12, 17]) (by kernel_rfl) (by simp) (AllReadyH.cons rfl (fun K hK => ?_) (AllReadyH.cons rfl (fun K hK => ?_) AllReadyH.nil))
      · -- the call, then the variable
        have hgc := hHeld
        clear hHeld
        go_simp
        with_reducible refine (KW.out _ hgc).mono ?_
        rintro e w3 ⟨rfl, hg3⟩
        have HC3 := hide hg3
        have HG3 := hide (hgc.trans hg3)
        clear hg3 hgc
        refine hK.out _ _ (HG3.out) (fun hHeld => ?_)
        clear hK K
        try simp only [Act.put, List.getElem_toArray, List.getElem_cons_zero, List.getElem_cons_succ, List.setIfInBounds_toArray, List.set_cons_zero, List.set_cons_succ]
        refine wpAnyH_take (i := 13) (v := ?_) rfl (by kernel_rfl) (by kernel_rfl) (by kernel_rfl) (fun _ _ _ h => h) (Or.inl ⟨by rfl, ?_⟩) hHeld ?_
        rotate_left 1
        · (intro w hSw; go_simp; try with_reducible rfl)
        try simp only [Act.put, List.getElem_toArray, List.getElem_cons_zero, List.getElem_cons_succ, List.setIfInBounds_toArray, List.set_cons_zero, List.set_cons_succ]
        refine wpAnyH_take (i := 14) (v := ?_) rfl (by kernel_rfl) (by kernel_rfl) (by kernel_rfl) (fun _ _ _ h => h) (Or.inl ⟨by rfl, ?_⟩) hHeld ?_
        rotate_left 1
        · (intro w hSw; go_simp; try with_reducible rfl)
        try simp only [Act.put, List.getElem_toArray, List.getElem_cons_zero, List.getElem_cons_succ, List.setIfInBounds_toArray, List.set_cons_zero, List.set_cons_succ]
        refine wpAnyH_take (i := 15) (v := ?_) rfl (by kernel_rfl) (by kernel_rfl) (by kernel_rfl) (fun _ _ _ h => h) (Or.inl ⟨by rfl, ?_⟩) hHeld ?_
        rotate_left 1
        · (intro w hSw; go_simp; try with_reducible rfl)
        try simp only [Act.put, List.getElem_toArray, List.getElem_cons_zero, List.getElem_cons_succ, List.setIfInBounds_toArray, List.set_cons_zero, List.set_cons_succ]
        refine wpAnyH_take (i := 16) (v := ?_) rfl (by kernel_rfl) (by kernel_rfl) (by kernel_rfl) (fun _ _ _ h => h) (Or.inl ⟨by rfl, ?_⟩) hHeld ?_
        rotate_left 1
        · (intro w hSw; go_simp; try with_reducible rfl)
        try simp only [Act.put, List.getElem_toArray, List.getElem_cons_zero, List.getElem_cons_succ, List.setIfInBounds_toArray, List.set_cons_zero, List.set_cons_succ]
        refine wpAnyH_ready (rs := [17]) (by kernel_rfl) (by simp) (AllReadyH.cons rfl (fun K hK => ?_) AllReadyH.nil)
        clear hHeld
        go_simp
        obtain ⟨w4, hw4⟩ : ∃ w4, w4 = w3.alloc (.cells #[I 0, .string { data := #[] }, I 0] 24) := ⟨_, rfl⟩
        rw [← hw4]
        have H4 : Hid (Blk w4 w3.heap.size 24 [I 0, .string { data := #[] }, I 0] ∧ G wr w4 ∧ wr.heap.size ≤ w3.heap.size) := by rw [hw4]; exact ⟨Blk.new w3 [I 0, .string { data := #[] }, I 0] 24, HG3.out.alloc _, HG3.out.size⟩
        obtain ⟨xb, hxb⟩ : ∃ xb, xb = w3.heap.size := ⟨_, rfl⟩
        rw [← hxb] at H4 ⊢
        clear hw4 hxb
        refine hK.out _ _ (H4.out.2.1) (fun hHeld => ?_)
        clear hK K
        try simp only [Act.put, List.getElem_toArray, List.getElem_cons_zero, List.getElem_cons_succ, List.setIfInBounds_toArray, List.set_cons_zero, List.set_cons_succ]
        refine wpAnyH_ready (rs := [18]) (by kernel_rfl) (by simp) (AllReadyH.cons rfl (fun K hK => ?_) AllReadyH.nil)
        clear hHeld
        have hcR := H4.out.1.cell
        have hzR := H4.out.1.frozen
        go_simp
        have H5 := hide (sets3 (I p1.at_.lv) (.string p1.at_.lb) (I p1.at_.id) H4.out.1 H4.out.2.1 H4.out.2.2)
        clear hcR hzR H4
        show K _ (W3 w4 xb (I p1.at_.lv) (.string p1.at_.lb) (I p1.at_.id))
        generalize W3 w4 xb (I p1.at_.lv) (.string p1.at_.lb) (I p1.at_.id) = w5 at H5 ⊢
        refine hK.out _ _ (H5.out.2.1) (fun hHeld => ?_)
        clear hK K
        try simp only [Act.put, List.getElem_toArray, List.getElem_cons_zero, List.getElem_cons_succ, List.setIfInBounds_toArray, List.set_cons_zero, List.set_cons_succ]
        refine wpAnyH_take (i := 19) (v := ?_) rfl (by kernel_rfl) (by kernel_rfl) (by kernel_rfl) (fun _ _ _ h => h) (Or.inl ⟨by rfl, ?_⟩) hHeld ?_
        rotate_left 1
        · (intro w hSw; go_simp; try with_reducible rfl)
        try simp only [Act.put, List.getElem_toArray, List.getElem_cons_zero, List.getElem_cons_succ, List.setIfInBounds_toArray, List.set_cons_zero, List.set_cons_succ]
        refine wpAnyH_take (i := 20) (v := ?_) rfl (by kernel_rfl) (by kernel_rfl) (by kernel_rfl) (fun _ _ _ h => h) (Or.inl ⟨by rfl, ?_⟩) hHeld ?_
        rotate_left 1
        · (intro w hSw; go_simp; try with_reducible rfl)
        try simp only [Act.put, List.getElem_toArray, List.getElem_cons_zero, List.getElem_cons_succ, List.setIfInBounds_toArray, List.set_cons_zero, List.set_cons_succ]
        refine wpAnyH_done (by kernel_rfl) ?_ _
        refine NoPanic.normal ?_
        clear hHeld
        have HG5 : Hid (G w2 w5) := HGW.out.trans H5.out.2.1
        have HROW5 := hide (own_G HROW.out H5.out.2.1)
        by_cases hg : p1.goal = 0
        · have g1 : (p1.goal != 0) = false := by simp [hg]
          have g2 : (p1.goal == 0) = true := by simp [hg]
          have HSN := hide (golL_no HC.out HP1.out hg)
          rw [hg]
          clear H5 g1 g2 hg
          go_wp2
          exact ⟨⟨n + 1, HLT.out, by rw [HWN.out]; exact rl1 n, by rw [HSN.out]; exact HROW5.out, HG5.out⟩, by rw [HWN.out]; exact ms_end HLT.out⟩
        · have g1 : (p1.goal != 0) = true := by simp [hg]
          have g2 : (p1.goal == 0) = false := by simp [hg]
          have HSN := hide (golL_yes HC.out HP1.out hg)
          have HC8 : Hid (∀ U, G w2 U → (∀ o, U.cell? ⟨b, o, none⟩ = ([ptr t, .slice (some ⟨ga, 0, none⟩) live.length ac, vr] : List Value)[o]?) ∧ U.cell? ⟨ga, n * 2, none⟩ = some (I c1)) := fun U gU => HCW.out U gU
          have HG6 : Hid (G w2 (w5.alloc (.cells #[I c1, I p1.goal, I p1.at_.lv, .string p1.at_.lb, I p1.at_.id] 84)).drew ∧ Blk (w5.alloc (.cells #[I c1, I p1.goal, I p1.at_.lv, .string p1.at_.lb, I p1.at_.id] 84)).drew xb 24 [I p1.at_.lv, .string p1.at_.lb, I p1.at_.id]) := ⟨(HG5.out.alloc _).drew, (H5.out.1.G ((G.refl w5).alloc _)).drew⟩
          obtain ⟨v9, w9, r1, r2, r3⟩ := app_gol w5.drew w2.heap.size _ (golL m (live.take n)) (c1, p1.goal, p1.at_) (own_G HROW5.out (G.refl w5).drew) HLEN.out HG5.out.size
          have HR1 : Hid ((Builtin.append_ #[81, 81] 81 #[.slice gva (golL m (live.take n)).length gvc, .slice (some ⟨w5.heap.size, 0, none⟩) 1 1]).run Tryz.prog (w5.alloc (.cells #[I c1, I p1.goal, I p1.at_.lv, .string p1.at_.lb, I p1.at_.id] 84)).drew = .ok v9 w9) := r1
          have hcg : Chg (fun k => (Value.slice gva (golL m (live.take n)).length gvc).ownBlock = some k) (w5.alloc (.cells #[I c1, I p1.goal, I p1.at_.lv, .string p1.at_.lb, I p1.at_.id] 84)).drew w9 := ⟨r3.os, r3.tape, r3.output, r3.size, fun k hk hn => r3.block k hk (fun e => hn e.symm)⟩
          have HG9 : Hid (G w2 w9 ∧ Blk w9 xb 24 [I p1.at_.lv, .string p1.at_.lb, I p1.at_.id]) := ⟨grown_G HG6.out.1 r3 (fun k hk => (World.ownsRow.lt HROW5.out k hk).1), HG6.out.2.chg hcg (fun e => own_ne HROW5.out H5.out.1 (by decide) e)⟩
          have HR2 := hide r2
          clear r1 r2 r3 hcg hg
          go_wp2_with fail
          go_upto_region 8 with fail
          refine wp_region_noPanic ?_
          refine wp_region_held_drew (S := (fun V => G w2 V ∧ Blk V xb 24 [I p1.at_.lv, .string p1.at_.lb, I p1.at_.id])) (by kernel_rfl) (⟨HG5.out.drew, H5.out.1.drew⟩) (fun hHeld => ?_)
          refine wpAnyH_take (i := 0) (v := ?_) rfl (by kernel_rfl) (by kernel_rfl) (by kernel_rfl) (fun _ _ _ h => h) (Or.inl ⟨by rfl, ?_⟩) hHeld ?_
          rotate_left 1
          · (intro w hSw; obtain ⟨q1, q2⟩ := HC8.out _ hSw.1; have q3 := hSw.2.cell; go_simp; try with_reducible rfl)
          try simp only [Act.put, List.getElem_toArray, List.getElem_cons_zero, List.setIfInBounds_toArray, List.set_cons_zero, List.set_cons_succ]
          refine wpAnyH_take (i := 1) (v := ?_) rfl (by kernel_rfl) (by kernel_rfl) (by kernel_rfl) (fun _ _ _ h => h) (Or.inl ⟨by rfl, ?_⟩) hHeld ?_
          rotate_left 1
          · (intro w hSw; obtain ⟨q1, q2⟩ := HC8.out _ hSw.1; have q3 := hSw.2.cell; go_simp; try with_reducible rfl)
          try simp only [Act.put, List.getElem_toArray, List.getElem_cons_zero, List.getElem_cons_succ, List.setIfInBounds_toArray, List.set_cons_zero, List.set_cons_succ]
          refine wpAnyH_take (i := 2) (v := ?_) rfl (by kernel_rfl) (by kernel_rfl) (by kernel_rfl) (fun _ _ _ h => h) (Or.inl ⟨by rfl, ?_⟩) hHeld ?_
          rotate_left 1
          · (intro w hSw; obtain ⟨q1, q2⟩ := HC8.out _ hSw.1; have q3 := hSw.2.cell; go_simp; try with_reducible rfl)
          try simp only [Act.put, List.getElem_toArray, List.getElem_cons_zero, List.getElem_cons_succ, List.setIfInBounds_toArray, List.set_cons_zero, List.set_cons_succ]
          refine wpAnyH_take (i := 3) (v := ?_) rfl (by kernel_rfl) (by kernel_rfl) (by kernel_rfl) (fun _ _ _ h => h) (Or.inl ⟨by rfl, ?_⟩) hHeld ?_
          rotate_left 1
          · (intro w hSw; obtain ⟨q1, q2⟩ := HC8.out _ hSw.1; have q3 := hSw.2.cell; go_simp; try with_reducible rfl)
          try simp only [Act.put, List.getElem_toArray, List.getElem_cons_zero, List.getElem_cons_succ, List.setIfInBounds_toArray, List.set_cons_zero, List.set_cons_succ]
          refine wpAnyH_take (i := 4) (v := ?_) rfl (by kernel_rfl) (by kernel_rfl) (by kernel_rfl) (fun _ _ _ h => h) (Or.inl ⟨by rfl, ?_⟩) hHeld ?_
          rotate_left 1
          · (intro w hSw; obtain ⟨q1, q2⟩ := HC8.out _ hSw.1; have q3 := hSw.2.cell; go_simp; try with_reducible rfl)
          try simp only [Act.put, List.getElem_toArray, List.getElem_cons_zero, List.getElem_cons_succ, List.setIfInBounds_toArray, List.set_cons_zero, List.set_cons_succ]
          refine wpAnyH_take (i := 5) (v := ?_) rfl (by kernel_rfl) (by kernel_rfl) (by kernel_rfl) (fun _ _ _ h => h) (Or.inl ⟨by rfl, ?_⟩) hHeld ?_
          rotate_left 1
          · (intro w hSw; obtain ⟨q1, q2⟩ := HC8.out _ hSw.1; have q3 := hSw.2.cell; go_simp; try with_reducible rfl)
          try simp only [Act.put, List.getElem_toArray, List.getElem_cons_zero, List.getElem_cons_succ, List.setIfInBounds_toArray, List.set_cons_zero, List.set_cons_succ]
          refine wpAnyH_take (i := 6) (v := ?_) rfl (by kernel_rfl) (by kernel_rfl) (by kernel_rfl) (fun _ _ _ h => h) (Or.inl ⟨by rfl, ?_⟩) hHeld ?_
          rotate_left 1
          · (intro w hSw; obtain ⟨q1, q2⟩ := HC8.out _ hSw.1; have q3 := hSw.2.cell; go_simp; try with_reducible rfl)
          try simp only [Act.put, List.getElem_toArray, List.getElem_cons_zero, List.getElem_cons_succ, List.setIfInBounds_toArray, List.set_cons_zero, List.set_cons_succ]
          refine wpAnyH_take (i := 7) (v := ?_) rfl (by kernel_rfl) (by kernel_rfl) (by kernel_rfl) (fun _ _ _ h => h) (Or.inl ⟨by rfl, ?_⟩) hHeld ?_
          rotate_left 1
          · (intro w hSw; obtain ⟨q1, q2⟩ := HC8.out _ hSw.1; have q3 := hSw.2.cell; go_simp; try with_reducible rfl)
          try simp only [Act.put, List.getElem_toArray, List.getElem_cons_zero, List.getElem_cons_succ, List.setIfInBounds_toArray, List.set_cons_zero, List.set_cons_succ]
          refine wpAnyH_take (i := 8) (v := ?_) rfl (by kernel_rfl) (by kernel_rfl) (by kernel_rfl) (fun _ _ _ h => h) (Or.inl ⟨by rfl, ?_⟩) hHeld ?_
          rotate_left 1
          · (intro w hSw; obtain ⟨q1, q2⟩ := HC8.out _ hSw.1; have q3 := hSw.2.cell; go_simp; try with_reducible rfl)
          try simp only [Act.put, List.getElem_toArray, List.getElem_cons_zero, List.getElem_cons_succ, List.setIfInBounds_toArray, List.set_cons_zero, List.set_cons_succ]
          refine wpAnyH_take (i := 9) (v := ?_) rfl (by kernel_rfl) (by kernel_rfl) (by kernel_rfl) (fun _ _ _ h => h) (Or.inl ⟨by rfl, ?_⟩) hHeld ?_
          rotate_left 1
          · (intro w hSw; obtain ⟨q1, q2⟩ := HC8.out _ hSw.1; have q3 := hSw.2.cell; go_simp; try with_reducible rfl)
          try simp only [Act.put, List.getElem_toArray, List.getElem_cons_zero, List.getElem_cons_succ, List.setIfInBounds_toArray, List.set_cons_zero, List.set_cons_succ]
          refine wpAnyH_take (i := 10) (v := ?_) rfl (by kernel_rfl) (by kernel_rfl) (by kernel_rfl) (fun _ _ _ h => h) (Or.inl ⟨by rfl, ?_⟩) hHeld ?_
          rotate_left 1
          · (intro w hSw; obtain ⟨q1, q2⟩ := HC8.out _ hSw.1; have q3 := hSw.2.cell; go_simp; try with_reducible rfl)
          try simp only [Act.put, List.getElem_toArray, List.getElem_cons_zero, List.getElem_cons_succ, List.setIfInBounds_toArray, List.set_cons_zero, List.set_cons_succ]
          refine wpAnyH_take (i := 11) (v := ?_) rfl (by kernel_rfl) (by kernel_rfl) (by kernel_rfl) (fun _ _ _ h => h) (Or.inl ⟨by rfl, ?_⟩) hHeld ?_
          rotate_left 1
          · (intro w hSw; obtain ⟨q1, q2⟩ := HC8.out _ hSw.1; have q3 := hSw.2.cell; go_simp; try with_reducible rfl)
          try simp only [Act.put, List.getElem_toArray, List.getElem_cons_zero, List.getElem_cons_succ, List.setIfInBounds_toArray, List.set_cons_zero, List.set_cons_succ]
          refine wpAnyH_ready (rs := [12]) (by kernel_rfl) (by simp) (AllReadyH.cons rfl (fun K hK => ?_) AllReadyH.nil)
          clear hHeld
          go_simp
          refine hK.out _ _ (⟨HG6.out.1, HG6.out.2⟩) (fun hHeld => ?_)
          clear hK K
          try simp only [Act.put, List.getElem_toArray, List.getElem_cons_zero, List.getElem_cons_succ, List.setIfInBounds_toArray, List.set_cons_zero, List.set_cons_succ]
          refine wpAnyH_ready (rs := [13]) (by kernel_rfl) (by simp) (AllReadyH.cons rfl (fun K hK => ?_) AllReadyH.nil)
          clear hHeld
          refine (if_pos rfl).mpr ?_
          refine wp_of_exec (exec_append _ _ 81 rfl (.slice gva (golL m (live.take n)).length gvc) (.slice (some ⟨w5.heap.size, 0, none⟩) 1 1) rfl rfl 81 rfl HR1.out) ?_
          refine hK.out _ _ (⟨HG9.out.1, HG9.out.2⟩) (fun hHeld => ?_)
          clear hK K
          try simp only [Act.put, List.getElem_toArray, List.getElem_cons_zero, List.getElem_cons_succ, List.setIfInBounds_toArray, List.set_cons_zero, List.set_cons_succ]
          refine wpAnyH_take (i := 14) (v := ?_) rfl (by kernel_rfl) (by kernel_rfl) (by kernel_rfl) (fun _ _ _ h => h) (Or.inl ⟨by rfl, ?_⟩) hHeld ?_
          rotate_left 1
          · (intro w hSw; (try dsimp only at hSw); go_simp; try with_reducible rfl)
          try simp only [Act.put, List.getElem_toArray, List.getElem_cons_zero, List.getElem_cons_succ, List.setIfInBounds_toArray, List.set_cons_zero, List.set_cons_succ]
          refine wpAnyH_done (by kernel_rfl) ?_ _
          refine NoPanic.normal ?_
          clear hHeld
          go_wp2
          exact ⟨⟨n + 1, HLT.out, by rw [HWN.out]; exact rl1 n, by rw [HSN.out]; exact HR2.out, HG9.out.1⟩, by rw [HWN.out]; exact ms_end HLT.out⟩
      · -- the variable, then the call
        clear hHeld
        go_simp
        obtain ⟨w9, hw9⟩ : ∃ w9, w9 = (wr.alloc (.cells #[I 0, .string { data := #[] }, I 0] 24)).drew := ⟨_, rfl⟩
        rw [← hw9]
        have H9 : Hid (Blk w9 wr.heap.size 24 [I 0, .string { data := #[] }, I 0] ∧ G wr w9) := by rw [hw9]; exact ⟨(Blk.new wr [I 0, .string { data := #[] }, I 0] 24).drew, ((G.refl wr).alloc _).drew⟩
        clear hw9
        refine hK.out _ _ (H9.out.2) (fun hHeld => ?_)
        clear hK K
        try simp only [Act.put, List.getElem_toArray, List.getElem_cons_zero, List.getElem_cons_succ, List.setIfInBounds_toArray, List.set_cons_zero, List.set_cons_succ]
        refine wpAnyH_ready (rs := [12]) (by kernel_rfl) (by simp) (AllReadyH.cons rfl (fun K hK => ?_) AllReadyH.nil)
        have hgc := hHeld
        clear hHeld
        go_simp
        with_reducible refine (KW.out _ hgc).mono ?_
        rintro e w4 ⟨rfl, hg3⟩
        have HC4 := hide hg3
        have HG4 := hide (hgc.trans hg3)
        clear hg3 hgc
        have H4 : Hid (Blk w4 wr.heap.size 24 [I 0, .string { data := #[] }, I 0] ∧ G wr w4 ∧ wr.heap.size ≤ wr.heap.size) := ⟨H9.out.1.G HC4.out, HG4.out, Nat.le_refl _⟩
        clear H9 HC4
        refine hK.out _ _ (H4.out.2.1) (fun hHeld => ?_)
        clear hK K
        try simp only [Act.put, List.getElem_toArray, List.getElem_cons_zero, List.getElem_cons_succ, List.setIfInBounds_toArray, List.set_cons_zero, List.set_cons_succ]
        refine wpAnyH_take (i := 13) (v := ?_) rfl (by kernel_rfl) (by kernel_rfl) (by kernel_rfl) (fun _ _ _ h => h) (Or.inl ⟨by rfl, ?_⟩) hHeld ?_
        rotate_left 1
        · (intro w hSw; go_simp; try with_reducible rfl)
        try simp only [Act.put, List.getElem_toArray, List.getElem_cons_zero, List.getElem_cons_succ, List.setIfInBounds_toArray, List.set_cons_zero, List.set_cons_succ]
        refine wpAnyH_take (i := 14) (v := ?_) rfl (by kernel_rfl) (by kernel_rfl) (by kernel_rfl) (fun _ _ _ h => h) (Or.inl ⟨by rfl, ?_⟩) hHeld ?_
        rotate_left 1
        · (intro w hSw; go_simp; try with_reducible rfl)
        try simp only [Act.put, List.getElem_toArray, List.getElem_cons_zero, List.getElem_cons_succ, List.setIfInBounds_toArray, List.set_cons_zero, List.set_cons_succ]
        refine wpAnyH_take (i := 15) (v := ?_) rfl (by kernel_rfl) (by kernel_rfl) (by kernel_rfl) (fun _ _ _ h => h) (Or.inl ⟨by rfl, ?_⟩) hHeld ?_
        rotate_left 1
        · (intro w hSw; go_simp; try with_reducible rfl)
        try simp only [Act.put, List.getElem_toArray, List.getElem_cons_zero, List.getElem_cons_succ, List.setIfInBounds_toArray, List.set_cons_zero, List.set_cons_succ]
        refine wpAnyH_take (i := 16) (v := ?_) rfl (by kernel_rfl) (by kernel_rfl) (by kernel_rfl) (fun _ _ _ h => h) (Or.inl ⟨by rfl, ?_⟩) hHeld ?_
        rotate_left 1
        · (intro w hSw; go_simp; try with_reducible rfl)
        try simp only [Act.put, List.getElem_toArray, List.getElem_cons_zero, List.getElem_cons_succ, List.setIfInBounds_toArray, List.set_cons_zero, List.set_cons_succ]
        refine wpAnyH_ready (rs := [18]) (by kernel_rfl) (by simp) (AllReadyH.cons rfl (fun K hK => ?_) AllReadyH.nil)
        clear hHeld
        have hcR := H4.out.1.cell
        have hzR := H4.out.1.frozen
        go_simp
        have H5 := hide (sets3 (I p1.at_.lv) (.string p1.at_.lb) (I p1.at_.id) H4.out.1 H4.out.2.1 H4.out.2.2)
        clear hcR hzR H4
        show K _ (W3 w4 (wr.heap.size) (I p1.at_.lv) (.string p1.at_.lb) (I p1.at_.id))
        generalize W3 w4 (wr.heap.size) (I p1.at_.lv) (.string p1.at_.lb) (I p1.at_.id) = w5 at H5 ⊢
        refine hK.out _ _ (H5.out.2.1) (fun hHeld => ?_)
        clear hK K
        try simp only [Act.put, List.getElem_toArray, List.getElem_cons_zero, List.getElem_cons_succ, List.setIfInBounds_toArray, List.set_cons_zero, List.set_cons_succ]
        refine wpAnyH_take (i := 19) (v := ?_) rfl (by kernel_rfl) (by kernel_rfl) (by kernel_rfl) (fun _ _ _ h => h) (Or.inl ⟨by rfl, ?_⟩) hHeld ?_
        rotate_left 1
        · (intro w hSw; go_simp; try with_reducible rfl)
        try simp only [Act.put, List.getElem_toArray, List.getElem_cons_zero, List.getElem_cons_succ, List.setIfInBounds_toArray, List.set_cons_zero, List.set_cons_succ]
        refine wpAnyH_take (i := 20) (v := ?_) rfl (by kernel_rfl) (by kernel_rfl) (by kernel_rfl) (fun _ _ _ h => h) (Or.inl ⟨by rfl, ?_⟩) hHeld ?_
        rotate_left 1
        · (intro w hSw; go_simp; try with_reducible rfl)
        try simp only [Act.put, List.getElem_toArray, List.getElem_cons_zero, List.getElem_cons_succ, List.setIfInBounds_toArray, List.set_cons_zero, List.set_cons_succ]
        refine wpAnyH_done (by kernel_rfl) ?_ _
        refine NoPanic.normal ?_
        clear hHeld
        generalize hxb : wr.heap.size = xb at H5 ⊢
        replace H5 : Hid (Blk w5 xb 24 [I p1.at_.lv, .string p1.at_.lb, I p1.at_.id] ∧ G wr w5 ∧ wr.heap.size ≤ xb) := ⟨H5.out.1, H5.out.2.1, Nat.le_of_eq hxb⟩
        clear hxb
        have HG5 : Hid (G w2 w5) := HGW.out.trans H5.out.2.1
        have HROW5 := hide (own_G HROW.out H5.out.2.1)
        by_cases hg : p1.goal = 0
        · have g1 : (p1.goal != 0) = false := by simp [hg]
          have g2 : (p1.goal == 0) = true := by simp [hg]
          have HSN := hide (golL_no HC.out HP1.out hg)
          rw [hg]
          clear H5 g1 g2 hg
          go_wp2
          exact ⟨⟨n + 1, HLT.out, by rw [HWN.out]; exact rl1 n, by rw [HSN.out]; exact HROW5.out, HG5.out⟩, by rw [HWN.out]; exact ms_end HLT.out⟩
        · have g1 : (p1.goal != 0) = true := by simp [hg]
          have g2 : (p1.goal == 0) = false := by simp [hg]
          have HSN := hide (golL_yes HC.out HP1.out hg)
          have HC8 : Hid (∀ U, G w2 U → (∀ o, U.cell? ⟨b, o, none⟩ = ([ptr t, .slice (some ⟨ga, 0, none⟩) live.length ac, vr] : List Value)[o]?) ∧ U.cell? ⟨ga, n * 2, none⟩ = some (I c1)) := fun U gU => HCW.out U gU
          have HG6 : Hid (G w2 (w5.alloc (.cells #[I c1, I p1.goal, I p1.at_.lv, .string p1.at_.lb, I p1.at_.id] 84)).drew ∧ Blk (w5.alloc (.cells #[I c1, I p1.goal, I p1.at_.lv, .string p1.at_.lb, I p1.at_.id] 84)).drew xb 24 [I p1.at_.lv, .string p1.at_.lb, I p1.at_.id]) := ⟨(HG5.out.alloc _).drew, (H5.out.1.G ((G.refl w5).alloc _)).drew⟩
          obtain ⟨v9, w9, r1, r2, r3⟩ := app_gol w5.drew w2.heap.size _ (golL m (live.take n)) (c1, p1.goal, p1.at_) (own_G HROW5.out (G.refl w5).drew) HLEN.out HG5.out.size
          have HR1 : Hid ((Builtin.append_ #[81, 81] 81 #[.slice gva (golL m (live.take n)).length gvc, .slice (some ⟨w5.heap.size, 0, none⟩) 1 1]).run Tryz.prog (w5.alloc (.cells #[I c1, I p1.goal, I p1.at_.lv, .string p1.at_.lb, I p1.at_.id] 84)).drew = .ok v9 w9) := r1
          have hcg : Chg (fun k => (Value.slice gva (golL m (live.take n)).length gvc).ownBlock = some k) (w5.alloc (.cells #[I c1, I p1.goal, I p1.at_.lv, .string p1.at_.lb, I p1.at_.id] 84)).drew w9 := ⟨r3.os, r3.tape, r3.output, r3.size, fun k hk hn => r3.block k hk (fun e => hn e.symm)⟩
          have HG9 : Hid (G w2 w9 ∧ Blk w9 xb 24 [I p1.at_.lv, .string p1.at_.lb, I p1.at_.id]) := ⟨grown_G HG6.out.1 r3 (fun k hk => (World.ownsRow.lt HROW5.out k hk).1), HG6.out.2.chg hcg (fun e => own_ne HROW5.out H5.out.1 (by decide) e)⟩
          have HR2 := hide r2
          clear r1 r2 r3 hcg hg
          go_wp2_with fail
          go_upto_region 8 with fail
          refine wp_region_noPanic ?_
          refine wp_region_held_drew (S := (fun V => G w2 V ∧ Blk V xb 24 [I p1.at_.lv, .string p1.at_.lb, I p1.at_.id])) (by kernel_rfl) (⟨HG5.out.drew, H5.out.1.drew⟩) (fun hHeld => ?_)
          refine wpAnyH_take (i := 0) (v := ?_) rfl (by kernel_rfl) (by kernel_rfl) (by kernel_rfl) (fun _ _ _ h => h) (Or.inl ⟨by rfl, ?_⟩) hHeld ?_
          rotate_left 1
          · (intro w hSw; obtain ⟨q1, q2⟩ := HC8.out _ hSw.1; have q3 := hSw.2.cell; go_simp; try with_reducible rfl)
          try simp only [Act.put, List.getElem_toArray, List.getElem_cons_zero, List.setIfInBounds_toArray, List.set_cons_zero, List.set_cons_succ]
          refine wpAnyH_take (i := 1) (v := ?_) rfl (by kernel_rfl) (by kernel_rfl) (by kernel_rfl) (fun _ _ _ h => h) (Or.inl ⟨by rfl, ?_⟩) hHeld ?_
          rotate_left 1
          · (intro w hSw; obtain ⟨q1, q2⟩ := HC8.out _ hSw.1; have q3 := hSw.2.cell; go_simp; try with_reducible rfl)
          try simp only [Act.put, List.getElem_toArray, List.getElem_cons_zero, List.getElem_cons_succ, List.setIfInBounds_toArray, List.set_cons_zero, List.set_cons_succ]
          refine wpAnyH_take (i := 2) (v := ?_) rfl (by kernel_rfl) (by kernel_rfl) (by kernel_rfl) (fun _ _ _ h => h) (Or.inl ⟨by rfl, ?_⟩) hHeld ?_
          rotate_left 1
          · (intro w hSw; obtain ⟨q1, q2⟩ := HC8.out _ hSw.1; have q3 := hSw.2.cell; go_simp; try with_reducible rfl)
          try simp only [Act.put, List.getElem_toArray, List.getElem_cons_zero, List.getElem_cons_succ, List.setIfInBounds_toArray, List.set_cons_zero, List.set_cons_succ]
          refine wpAnyH_take (i := 3) (v := ?_) rfl (by kernel_rfl) (by kernel_rfl) (by kernel_rfl) (fun _ _ _ h => h) (Or.inl ⟨by rfl, ?_⟩) hHeld ?_
          rotate_left 1
          · (intro w hSw; obtain ⟨q1, q2⟩ := HC8.out _ hSw.1; have q3 := hSw.2.cell; go_simp; try with_reducible rfl)
          try simp only [Act.put, List.getElem_toArray, List.getElem_cons_zero, List.getElem_cons_succ, List.setIfInBounds_toArray, List.set_cons_zero, List.set_cons_succ]
          refine wpAnyH_take (i := 4) (v := ?_) rfl (by kernel_rfl) (by kernel_rfl) (by kernel_rfl) (fun _ _ _ h => h) (Or.inl ⟨by rfl, ?_⟩) hHeld ?_
          rotate_left 1
          · (intro w hSw; obtain ⟨q1, q2⟩ := HC8.out _ hSw.1; have q3 := hSw.2.cell; go_simp; try with_reducible rfl)
          try simp only [Act.put, List.getElem_toArray, List.getElem_cons_zero, List.getElem_cons_succ, List.setIfInBounds_toArray, List.set_cons_zero, List.set_cons_succ]
          refine wpAnyH_take (i := 5) (v := ?_) rfl (by kernel_rfl) (by kernel_rfl) (by kernel_rfl) (fun _ _ _ h => h) (Or.inl ⟨by rfl, ?_⟩) hHeld ?_
          rotate_left 1
          · (intro w hSw; obtain ⟨q1, q2⟩ := HC8.out _ hSw.1; have q3 := hSw.2.cell; go_simp; try with_reducible rfl)
          try simp only [Act.put, List.getElem_toArray, List.getElem_cons_zero, List.getElem_cons_succ, List.setIfInBounds_toArray, List.set_cons_zero, List.set_cons_succ]
          refine wpAnyH_take (i := 6) (v := ?_) rfl (by kernel_rfl) (by kernel_rfl) (by kernel_rfl) (fun _ _ _ h => h) (Or.inl ⟨by rfl, ?_⟩) hHeld ?_
          rotate_left 1
          · (intro w hSw; obtain ⟨q1, q2⟩ := HC8.out _ hSw.1; have q3 := hSw.2.cell; go_simp; try with_reducible rfl)
          try simp only [Act.put, List.getElem_toArray, List.getElem_cons_zero, List.getElem_cons_succ, List.setIfInBounds_toArray, List.set_cons_zero, List.set_cons_succ]
          refine wpAnyH_take (i := 7) (v := ?_) rfl (by kernel_rfl) (by kernel_rfl) (by kernel_rfl) (fun _ _ _ h => h) (Or.inl ⟨by rfl, ?_⟩) hHeld ?_
          rotate_left 1
          · (intro w hSw; obtain ⟨q1, q2⟩ := HC8.out _ hSw.1; have q3 := hSw.2.cell; go_simp; try with_reducible rfl)
          try simp only [Act.put, List.getElem_toArray, List.getElem_cons_zero, List.getElem_cons_succ, List.setIfInBounds_toArray, List.set_cons_zero, List.set_cons_succ]
          refine wpAnyH_take (i := 8) (v := ?_) rfl (by kernel_rfl) (by kernel_rfl) (by kernel_rfl) (fun _ _ _ h => h) (Or.inl ⟨by rfl, ?_⟩) hHeld ?_
          rotate_left 1
          · (intro w hSw; obtain ⟨q1, q2⟩ := HC8.out _ hSw.1; have q3 := hSw.2.cell; go_simp; try with_reducible rfl)
          try simp only [Act.put, List.getElem_toArray, List.getElem_cons_zero, List.getElem_cons_succ, List.setIfInBounds_toArray, List.set_cons_zero, List.set_cons_succ]
          refine wpAnyH_take (i := 9) (v := ?_) rfl (by kernel_rfl) (by kernel_rfl) (by kernel_rfl) (fun _ _ _ h => h) (Or.inl ⟨by rfl, ?_⟩) hHeld ?_
          rotate_left 1
          · (intro w hSw; obtain ⟨q1, q2⟩ := HC8.out _ hSw.1; have q3 := hSw.2.cell; go_simp; try with_reducible rfl)
          try simp only [Act.put, List.getElem_toArray, List.getElem_cons_zero, List.getElem_cons_succ, List.setIfInBounds_toArray, List.set_cons_zero, List.set_cons_succ]
          refine wpAnyH_take (i := 10) (v := ?_) rfl (by kernel_rfl) (by kernel_rfl) (by kernel_rfl) (fun _ _ _ h => h) (Or.inl ⟨by rfl, ?_⟩) hHeld ?_
          rotate_left 1
          · (intro w hSw; obtain ⟨q1, q2⟩ := HC8.out _ hSw.1; have q3 := hSw.2.cell; go_simp; try with_reducible rfl)
          try simp only [Act.put, List.getElem_toArray, List.getElem_cons_zero, List.getElem_cons_succ, List.setIfInBounds_toArray, List.set_cons_zero, List.set_cons_succ]
          refine wpAnyH_take (i := 11) (v := ?_) rfl (by kernel_rfl) (by kernel_rfl) (by kernel_rfl) (fun _ _ _ h => h) (Or.inl ⟨by rfl, ?_⟩) hHeld ?_
          rotate_left 1
          · (intro w hSw; obtain ⟨q1, q2⟩ := HC8.out _ hSw.1; have q3 := hSw.2.cell; go_simp; try with_reducible rfl)
          try simp only [Act.put, List.getElem_toArray, List.getElem_cons_zero, List.getElem_cons_succ, List.setIfInBounds_toArray, List.set_cons_zero, List.set_cons_succ]
          refine wpAnyH_ready (rs := [12]) (by kernel_rfl) (by simp) (AllReadyH.cons rfl (fun K hK => ?_) AllReadyH.nil)
          clear hHeld
          go_simp
          refine hK.out _ _ (⟨HG6.out.1, HG6.out.2⟩) (fun hHeld => ?_)
          clear hK K
          try simp only [Act.put, List.getElem_toArray, List.getElem_cons_zero, List.getElem_cons_succ, List.setIfInBounds_toArray, List.set_cons_zero, List.set_cons_succ]
          refine wpAnyH_ready (rs := [13]) (by kernel_rfl) (by simp) (AllReadyH.cons rfl (fun K hK => ?_) AllReadyH.nil)
          clear hHeld
          refine (if_pos rfl).mpr ?_
          refine wp_of_exec (exec_append _ _ 81 rfl (.slice gva (golL m (live.take n)).length gvc) (.slice (some ⟨w5.heap.size, 0, none⟩) 1 1) rfl rfl 81 rfl HR1.out) ?_
          refine hK.out _ _ (⟨HG9.out.1, HG9.out.2⟩) (fun hHeld => ?_)
          clear hK K
          try simp only [Act.put, List.getElem_toArray, List.getElem_cons_zero, List.getElem_cons_succ, List.setIfInBounds_toArray, List.set_cons_zero, List.set_cons_succ]
          refine wpAnyH_take (i := 14) (v := ?_) rfl (by kernel_rfl) (by kernel_rfl) (by kernel_rfl) (fun _ _ _ h => h) (Or.inl ⟨by rfl, ?_⟩) hHeld ?_
          rotate_left 1
          · (intro w hSw; (try dsimp only at hSw); go_simp; try with_reducible rfl)
          try simp only [Act.put, List.getElem_toArray, List.getElem_cons_zero, List.getElem_cons_succ, List.setIfInBounds_toArray, List.set_cons_zero, List.set_cons_succ]
          refine wpAnyH_done (by kernel_rfl) ?_ _
          refine NoPanic.normal ?_
          clear hHeld
          go_wp2
          exact ⟨⟨n + 1, HLT.out, by rw [HWN.out]; exact rl1 n, by rw [HSN.out]; exact HR2.out, HG9.out.1⟩, by rw [HWN.out]; exact ms_end HLT.out⟩
    · have hne : n = live.length := by omega
      subst hne
      have hnI : ¬ ((live.length : Int) < (live.length : Int)) := by omega
      rw [List.take_length] at hrow
      have hgll := golL_len m live
      have hlvl := hLd.sg.lf.2
      generalize hgle : golL m live = gl at hrow hgll
      obtain ⟨gva, gvc, rfl⟩ := row_form hrow
      have H3 : Hid (Ld W0 wr b t lo s m live res (.slice aa live.length ac) vr L LR ∧ wr.ownsRow w.heap.size 3 1 (.slice ha hs.length hc) hs.length (hs.map fun z => I z) ∧ wr.ownsRow w2.heap.size 84 5 (.slice gva gl.length gvc) gl.length (gc gl) ∧ golL m live = gl ∧ gl.length < 2000000000000 ∧ (∀ k, (Value.slice gva gl.length gvc).ownBlock = some k → s.own k = none ∧ k ≠ b)) := by
        refine ⟨hLd, own_G HH2.out.2.1 hgw, hrow, hgle, by omega, fun k hk => ?_⟩
        have h1 := (World.ownsRow.lt hrow k hk).1
        exact ⟨HH2.out.1.gt.tt.fresh (by omega), by have := HH2.out.1.sg.blk.lt; omega⟩
      clear hn hlt hrow hgw hLd hgle hgll hlvl
      have KE := hide (End_t H3.out.1.gt HP.out HL.out HLR.out)
      go_wp2_with (first | (go_at_call 19; refine Hid.out ?_) | fail)
      unfold Hid
      refine KE.out.mono ?_
      rintro e w4 ⟨u, out, s', m', rfl, hrow4, hT4, hE4, hK4⟩
      obtain ⟨ua, uc, rfl⟩ := row_form hrow4
      have H4 : Hid (Ld W0 w4 b t lo s' m' live res (.slice aa live.length ac) vr L LR ∧ EndK m x p out m' ∧ w4.ownsRow wr.heap.size 3 1 (.slice ua out.length uc) out.length (out.map fun z => I z) ∧ w4.ownsRow w.heap.size 3 1 (.slice ha hs.length hc) hs.length (hs.map fun z => I z) ∧ w4.ownsRow w2.heap.size 84 5 (.slice gva gl.length gvc) gl.length (gc gl)) := ⟨H3.out.1.ext hE4 hT4, hK4, hrow4, own_ext H3.out.2.1 hE4 (fun k hk => (HH2.out.2.2.2 k hk).1), own_ext H3.out.2.2.1 hE4 (fun k hk => (H3.out.2.2.2.2.2 k hk).1)⟩
      clear hrow4 hT4 hE4 hK4 KE hbc
      go_wp2_with (first | (go_at_call 20; refine Hid.out ?_) | fail)
      unfold Hid
      refine (H4.out.1.gone x).mono ?_
      rintro e w5 ⟨rfl, va', h5, hc5⟩
      have hbk' := H4.out.2.1.bk HBK.out
      have hol : out.length ≤ (noX x live).length := live_le hbk' H4.out.2.1.nodup (fun y hy => by obtain ⟨-, b1, b2, -, -, h3, -⟩ := H4.out.2.1.got y hy; exact ⟨b2, h3⟩)
      have H5 : Hid (Ld W0 w5 b t lo s' m' (noX x live) res va' vr L LR ∧ w5.ownsRow wr.heap.size 3 1 (.slice ua out.length uc) out.length (out.map fun z => I z) ∧ w5.ownsRow w.heap.size 3 1 (.slice ha hs.length hc) hs.length (hs.map fun z => I z) ∧ w5.ownsRow w2.heap.size 84 5 (.slice gva gl.length gvc) gl.length (gc gl) ∧ Bk m' (noX x live) ∧ out.length < 2000000000000) := by
        refine ⟨h5, own_chg H4.out.2.2.1 hc5 (fun k hk e => ?_), own_chg H4.out.2.2.2.1 hc5 (fun k hk e => (HH2.out.2.2.2 k hk).2 e), own_chg H4.out.2.2.2.2 hc5 (fun k hk e => (H3.out.2.2.2.2.2 k hk).2 e), hbk', by have := h5.sg.lf.2; omega⟩
        have h1 := (World.ownsRow.lt H4.out.2.2.1 k hk).1
        have h2 := H3.out.1.sg.blk.lt
        omega
      have KO : Hid (Calls Tryz.prog 11 #[ptr b] w5 fun e w' => e = .returned (I (oldL 0 (noX x live))) ∧ w' = w5) := oldest_any b _ va' vr lo (noX x live) w5 h5.sg.blk h5.sg.lf
      have KN : Hid (Calls Tryz.prog 42 #[ptr b, .slice none 0 0, .slice ha hs.length hc, I (oldL 0 (noX x live))] w5 fun e w' => e = .returned (.bool true) ∧ G w5 w') := wounds_any b t s' m' L LR va' vr lo (noX x live) w5 h5.gt HL.out h5.sg.blk h5.sg.lf hbk' _ _ 0 _ [] hs ⟨rfl, .inl ⟨rfl, rfl⟩⟩ H5.out.2.2.1 (by simp) (by have := HH2.out.2.2.1; have := H3.out.1.sg.lf.2; omega) _ (fun y hy => by cases hy) (fun y hy => by cases hy) List.Pairwise.nil
      clear h5 hc5 hbk' hol
      go_wp2_with (first | (go_at_call 11; with_reducible refine KO.out.mono ?_; rintro e w' ⟨rfl, hw'⟩; have hw2 := hw'.symm; subst hw2; clear hw') | (go_at_call 42; refine Hid.out ?_) | fail)
      unfold Hid
      refine KN.out.mono ?_
      rintro e w6 ⟨rfl, hg6⟩
      have HG6 := hide hg6
      clear hg6 KN KO
      go_wp2_with fail
      go_loopw [14] (fun iv wr => ∃ n : Nat, n ≤ out.length ∧ iv = I (n : Int) ∧ G w6 wr) (fun iv _ => out.length - (RowKit.intOf iv).toNat)
      case atStart => exact ⟨0, Nat.zero_le _, rfl, G.refl _⟩
      case round =>
        obtain ⟨n, hn, rfl, hgw⟩ := hrel
        by_cases hlt : n < out.length
        · obtain ⟨y, hy⟩ : ∃ a, out[n]? = some a := ⟨_, List.getElem?_eq_getElem hlt⟩
          obtain ⟨hyx, b1, b2, hb1, hb1g, hb2, hb2g, hb2h⟩ := H4.out.2.1.got y (List.mem_of_getElem? hy)
          have hnI : (n : Int) < (out.length : Int) := by omega
          have hwn : wrap64 ((n : Int) + 1) = (n : Int) + 1 := by have := H5.out.2.2.2.2.2; unfold wrap64; omega
          have HWN := hide hwn
          obtain ⟨ga, hga, -⟩ := int_at (own_G H5.out.2.1 HG6.out) hy
          subst hga
          have HK : Hid (∀ U, G w6 U → (∀ o, U.cell? ⟨b, o, none⟩ = ([ptr t, va', vr] : List Value)[o]?) ∧ U.cell? ⟨ga, n, none⟩ = some (I y)) := fun U gU => by
            refine ⟨(H5.out.1.G (HG6.out.trans gU)).sg.blk.cell, ?_⟩
            obtain ⟨gb, hgb, k⟩ := int_at (own_G H5.out.2.1 (HG6.out.trans gU)) hy
            have e : ga = gb := by simpa using hgb
            rw [e]; exact k
          have HB : Hid (y ≠ x ∧ m.lv y = some b1 ∧ b1.goal ≠ 0 ∧ m'.lv y = some b2 ∧ b2.goal = 0 ∧ b2.hf b1.at_ = b1.goal) := ⟨hyx, hb1, hb1g, hb2, hb2g, hb2h⟩
          have HLT := hide hlt; have HGW := hide hgw
          clear hn hlt hgw hy hyx hb1 hb1g hb2 hb2g hb2h hwn
          go_wp2_with fail
          go_loopw [15, 16] (fun hv jv wi => ∃ j : Nat, j ≤ gl.length ∧ hv = .bool (hadB y (gl.take j)) ∧ jv = I (j : Int) ∧ G w6 wi) (fun _ jv _ => gl.length - (RowKit.intOf jv).toNat)
          case atStart => exact ⟨0, Nat.zero_le _, rfl, rfl, HGW.out⟩
          case round =>
            obtain ⟨j, hj, rfl, rfl, hgj⟩ := hrel
            by_cases hjl : j < gl.length
            · obtain ⟨⟨z, zg, zr⟩, hz⟩ : ∃ a, gl[j]? = some a := ⟨_, List.getElem?_eq_getElem hjl⟩
              have hjI : (j : Int) < (gl.length : Int) := by omega
              have hwj : wrap64 ((j : Int) + 1) = (j : Int) + 1 := by have := H3.out.2.2.2.2.1; unfold wrap64; omega
              have HWJ := hide hwj
              obtain ⟨gg, hgg, -⟩ := gc_cell (own_G H5.out.2.2.2.1 HG6.out) hz
              subst hgg
              have HZ : Hid (∀ U, G w6 U → U.cell? ⟨gg, j * 5, none⟩ = some (I z) ∧ U.cell? ⟨gg, j * 5 + 1, none⟩ = some (I zg) ∧ U.cell? ⟨gg, j * 5 + 2, none⟩ = some (I zr.lv) ∧ U.cell? ⟨gg, j * 5 + 2 + 1, none⟩ = some (.string zr.lb) ∧ U.cell? ⟨gg, j * 5 + 2 + 2, none⟩ = some (I zr.id)) := fun U gU => by
                obtain ⟨gb, hgb, k⟩ := gc_cell (own_G H5.out.2.2.2.1 (HG6.out.trans gU)) hz
                have e : gg = gb := by simpa using hgb
                rw [e]
                exact ⟨k 0 (by omega), k 1 (by omega), k 2 (by omega), k 3 (by omega), k 4 (by omega)⟩
              have q1 := (HK.out _ hgj).2
              have q2 := (HZ.out _ hgj).1
              have HZZ := hide hz; have HJL := hide hjl; have HGJ := hide hgj
              by_cases hzy : z = y
              · obtain ⟨b0, e1, e2, e3, e4⟩ := golL_mem (c := (z, zg, zr)) (by rw [H3.out.2.2.2.1]; exact List.mem_of_getElem? hz)
                dsimp only at e1 e3 e4
                subst hzy
                have e5 : b0 = b1 := by rw [HB.out.2.1] at e1; exact (Option.some.inj e1).symm
                rw [e5] at e3 e4
                have HGD : Hid (GoodR zr LR) := by rw [e4]; exact ((H3.out.1.gt.iv.lv z b1 HB.out.2.1).g1 HB.out.2.2.1).2
                have HHF : Hid (b2.hf zr = zg ∧ b2.goal = 0 ∧ z ≠ x) := ⟨by rw [e3, e4]; exact HB.out.2.2.2.2.2, HB.out.2.2.2.2.1, HB.out.1⟩
                clear e1 e2 e3 e4 e5 hz hjl hgj hj hwj
                go_wp2
                go_quiet (fail)
                generalize hV : World.drewN wr _ = V
                have HV : Hid (G w6 V) := by rw [← hV]; exact HGJ.out.drewN _
                clear hV q1 q2 HGJ
                have KM : Hid (Calls Tryz.prog 43 #[ptr t, I z, .agg #[I zr.lv, .string zr.lb, I zr.id]] V.drew fun e w' => e = .returned (.tuple #[I zg, I 0]) ∧ G V.drew w') := by
                  have := mode_t (H5.out.1.gt.G ((HG6.out.trans HV.out).drew)) HB.out.2.2.2.1 HGD.out
                  rw [HHF.out.1] at this
                  exact this
                go_wp2_with fail
                go_upto_region 21 with fail
                refine wp_region_noPanic ?_
                refine wp_region_held_drew (S := (fun U => G V U)) (by kernel_rfl) ((G.refl V).drew) (fun hHeld => ?_)
                refine wpAnyH_take (i := 0) (v := ?_) rfl (by kernel_rfl) (by kernel_rfl) (by kernel_rfl) (fun _ _ _ h => h) (Or.inl ⟨by rfl, ?_⟩) hHeld ?_
                rotate_left 1
                · (intro w hSw; obtain ⟨q1, q2⟩ := HK.out _ (HV.out.trans hSw); obtain ⟨q3, q4, q5, q6, q7⟩ := HZ.out _ (HV.out.trans hSw); go_simp; try with_reducible rfl)
                try simp only [Act.put, List.getElem_toArray, List.getElem_cons_zero, List.setIfInBounds_toArray, List.set_cons_zero, List.set_cons_succ]
                refine wpAnyH_take (i := 1) (v := ?_) rfl (by kernel_rfl) (by kernel_rfl) (by kernel_rfl) (fun _ _ _ h => h) (Or.inl ⟨by rfl, ?_⟩) hHeld ?_
                rotate_left 1
                · (intro w hSw; obtain ⟨q1, q2⟩ := HK.out _ (HV.out.trans hSw); obtain ⟨q3, q4, q5, q6, q7⟩ := HZ.out _ (HV.out.trans hSw); go_simp; try with_reducible rfl)
                try simp only [Act.put, List.getElem_toArray, List.getElem_cons_zero, List.getElem_cons_succ, List.setIfInBounds_toArray, List.set_cons_zero, List.set_cons_succ]
                refine wpAnyH_take (i := 2) (v := ?_) rfl (by kernel_rfl) (by kernel_rfl) (by kernel_rfl) (fun _ _ _ h => h) (Or.inl ⟨by rfl, ?_⟩) hHeld ?_
                rotate_left 1
                · (intro w hSw; obtain ⟨q1, q2⟩ := HK.out _ (HV.out.trans hSw); obtain ⟨q3, q4, q5, q6, q7⟩ := HZ.out _ (HV.out.trans hSw); go_simp; try with_reducible rfl)
                try simp only [Act.put, List.getElem_toArray, List.getElem_cons_zero, List.getElem_cons_succ, List.setIfInBounds_toArray, List.set_cons_zero, List.set_cons_succ]
                refine wpAnyH_take (i := 3) (v := ?_) rfl (by kernel_rfl) (by kernel_rfl) (by kernel_rfl) (fun _ _ _ h => h) (Or.inl ⟨by rfl, ?_⟩) hHeld ?_
                rotate_left 1
                · (intro w hSw; obtain ⟨q1, q2⟩ := HK.out _ (HV.out.trans hSw); obtain ⟨q3, q4, q5, q6, q7⟩ := HZ.out _ (HV.out.trans hSw); go_simp; try with_reducible rfl)
                try simp only [Act.put, List.getElem_toArray, List.getElem_cons_zero, List.getElem_cons_succ, List.setIfInBounds_toArray, List.set_cons_zero, List.set_cons_succ]
                refine wpAnyH_take (i := 4) (v := ?_) rfl (by kernel_rfl) (by kernel_rfl) (by kernel_rfl) (fun _ _ _ h => h) (Or.inl ⟨by rfl, ?_⟩) hHeld ?_
                rotate_left 1
                · (intro w hSw; obtain ⟨q1, q2⟩ := HK.out _ (HV.out.trans hSw); obtain ⟨q3, q4, q5, q6, q7⟩ := HZ.out _ (HV.out.trans hSw); go_simp; try with_reducible rfl)
                try simp only [Act.put, List.getElem_toArray, List.getElem_cons_zero, List.getElem_cons_succ, List.setIfInBounds_toArray, List.set_cons_zero, List.set_cons_succ]
                refine wpAnyH_take (i := 5) (v := ?_) rfl (by kernel_rfl) (by kernel_rfl) (by kernel_rfl) (fun _ _ _ h => h) (Or.inl ⟨by rfl, ?_⟩) hHeld ?_
                rotate_left 1
                · (intro w hSw; obtain ⟨q1, q2⟩ := HK.out _ (HV.out.trans hSw); obtain ⟨q3, q4, q5, q6, q7⟩ := HZ.out _ (HV.out.trans hSw); go_simp; try with_reducible rfl)
                try simp only [Act.put, List.getElem_toArray, List.getElem_cons_zero, List.getElem_cons_succ, List.setIfInBounds_toArray, List.set_cons_zero, List.set_cons_succ]
                refine wpAnyH_take (i := 6) (v := ?_) rfl (by kernel_rfl) (by kernel_rfl) (by kernel_rfl) (fun _ _ _ h => h) (Or.inl ⟨by rfl, ?_⟩) hHeld ?_
                rotate_left 1
                · (intro w hSw; obtain ⟨q1, q2⟩ := HK.out _ (HV.out.trans hSw); obtain ⟨q3, q4, q5, q6, q7⟩ := HZ.out _ (HV.out.trans hSw); go_simp; try with_reducible rfl)
                try simp only [Act.put, List.getElem_toArray, List.getElem_cons_zero, List.getElem_cons_succ, List.setIfInBounds_toArray, List.set_cons_zero, List.set_cons_succ]
                refine wpAnyH_take (i := 7) (v := ?_) rfl (by kernel_rfl) (by kernel_rfl) (by kernel_rfl) (fun _ _ _ h => h) (Or.inl ⟨by rfl, ?_⟩) hHeld ?_
                rotate_left 1
                · (intro w hSw; obtain ⟨q1, q2⟩ := HK.out _ (HV.out.trans hSw); obtain ⟨q3, q4, q5, q6, q7⟩ := HZ.out _ (HV.out.trans hSw); go_simp; try with_reducible rfl)
                try simp only [Act.put, List.getElem_toArray, List.getElem_cons_zero, List.getElem_cons_succ, List.setIfInBounds_toArray, List.set_cons_zero, List.set_cons_succ]
                refine wpAnyH_take (i := 8) (v := ?_) rfl (by kernel_rfl) (by kernel_rfl) (by kernel_rfl) (fun _ _ _ h => h) (Or.inl ⟨by rfl, ?_⟩) hHeld ?_
                rotate_left 1
                · (intro w hSw; obtain ⟨q1, q2⟩ := HK.out _ (HV.out.trans hSw); obtain ⟨q3, q4, q5, q6, q7⟩ := HZ.out _ (HV.out.trans hSw); go_simp; try with_reducible rfl)
                try simp only [Act.put, List.getElem_toArray, List.getElem_cons_zero, List.getElem_cons_succ, List.setIfInBounds_toArray, List.set_cons_zero, List.set_cons_succ]
                refine wpAnyH_take (i := 9) (v := ?_) rfl (by kernel_rfl) (by kernel_rfl) (by kernel_rfl) (fun _ _ _ h => h) (Or.inl ⟨by rfl, ?_⟩) hHeld ?_
                rotate_left 1
                · (intro w hSw; obtain ⟨q1, q2⟩ := HK.out _ (HV.out.trans hSw); obtain ⟨q3, q4, q5, q6, q7⟩ := HZ.out _ (HV.out.trans hSw); go_simp; try with_reducible rfl)
                try simp only [Act.put, List.getElem_toArray, List.getElem_cons_zero, List.getElem_cons_succ, List.setIfInBounds_toArray, List.set_cons_zero, List.set_cons_succ]
                refine wpAnyH_take (i := 10) (v := ?_) rfl (by kernel_rfl) (by kernel_rfl) (by kernel_rfl) (fun _ _ _ h => h) (Or.inl ⟨by rfl, ?_⟩) hHeld ?_
                rotate_left 1
                · (intro w hSw; obtain ⟨q1, q2⟩ := HK.out _ (HV.out.trans hSw); obtain ⟨q3, q4, q5, q6, q7⟩ := HZ.out _ (HV.out.trans hSw); go_simp; try with_reducible rfl)
                try simp only [Act.put, List.getElem_toArray, List.getElem_cons_zero, List.getElem_cons_succ, List.setIfInBounds_toArray, List.set_cons_zero, List.set_cons_succ]
                refine wpAnyH_take (i := 11) (v := ?_) rfl (by kernel_rfl) (by kernel_rfl) (by kernel_rfl) (fun _ _ _ h => h) (Or.inl ⟨by rfl, ?_⟩) hHeld ?_
                rotate_left 1
                · (intro w hSw; obtain ⟨q1, q2⟩ := HK.out _ (HV.out.trans hSw); obtain ⟨q3, q4, q5, q6, q7⟩ := HZ.out _ (HV.out.trans hSw); go_simp; try with_reducible rfl)
                try simp only [Act.put, List.getElem_toArray, List.getElem_cons_zero, List.getElem_cons_succ, List.setIfInBounds_toArray, List.set_cons_zero, List.set_cons_succ]
                refine wpAnyH_take (i := 12) (v := ?_) rfl (by kernel_rfl) (by kernel_rfl) (by kernel_rfl) (fun _ _ _ h => h) (Or.inl ⟨by rfl, ?_⟩) hHeld ?_
                rotate_left 1
                · (intro w hSw; obtain ⟨q1, q2⟩ := HK.out _ (HV.out.trans hSw); obtain ⟨q3, q4, q5, q6, q7⟩ := HZ.out _ (HV.out.trans hSw); go_simp; try with_reducible rfl)
                try simp only [Act.put, List.getElem_toArray, List.getElem_cons_zero, List.getElem_cons_succ, List.setIfInBounds_toArray, List.set_cons_zero, List.set_cons_succ]
                refine wpAnyH_ready (rs := [13]) (by kernel_rfl) (by simp) (AllReadyH.cons rfl (fun K hK => ?_) AllReadyH.nil)
                clear hHeld
                go_simp
                with_reducible refine KM.out.mono ?_
                rintro e w7 ⟨rfl, hg7⟩
                have HG7 := hide ((G.refl V).drew.trans hg7)
                clear hg7 KM
                refine hK.out _ _ (HG7.out) (fun hHeld => ?_)
                clear hK K
                try simp only [Act.put, List.getElem_toArray, List.getElem_cons_zero, List.getElem_cons_succ, List.setIfInBounds_toArray, List.set_cons_zero, List.set_cons_succ]
                refine wpAnyH_take (i := 14) (v := ?_) rfl (by kernel_rfl) (by kernel_rfl) (by kernel_rfl) (fun _ _ _ h => h) (Or.inl ⟨by rfl, ?_⟩) hHeld ?_
                rotate_left 1
                · (intro w hSw; (try dsimp only at hSw); go_simp; try with_reducible rfl)
                try simp only [Act.put, List.getElem_toArray, List.getElem_cons_zero, List.getElem_cons_succ, List.setIfInBounds_toArray, List.set_cons_zero, List.set_cons_succ]
                refine wpAnyH_take (i := 15) (v := ?_) rfl (by kernel_rfl) (by kernel_rfl) (by kernel_rfl) (fun _ _ _ h => h) (Or.inl ⟨by rfl, ?_⟩) hHeld ?_
                rotate_left 1
                · (intro w hSw; (try dsimp only at hSw); go_simp; try with_reducible rfl)
                try simp only [Act.put, List.getElem_toArray, List.getElem_cons_zero, List.getElem_cons_succ, List.setIfInBounds_toArray, List.set_cons_zero, List.set_cons_succ]
                refine wpAnyH_take (i := 16) (v := ?_) rfl (by kernel_rfl) (by kernel_rfl) (by kernel_rfl) (fun _ _ _ h => h) (Or.inl ⟨by rfl, ?_⟩) hHeld ?_
                rotate_left 1
                · (intro w hSw; (try dsimp only at hSw); go_simp; try with_reducible rfl)
                try simp only [Act.put, List.getElem_toArray, List.getElem_cons_zero, List.getElem_cons_succ, List.setIfInBounds_toArray, List.set_cons_zero, List.set_cons_succ]
                refine wpAnyH_take (i := 17) (v := ?_) rfl (by kernel_rfl) (by kernel_rfl) (by kernel_rfl) (fun _ _ _ h => h) (Or.inl ⟨by rfl, ?_⟩) hHeld ?_
                rotate_left 1
                · (intro w hSw; (try dsimp only at hSw); go_simp; try with_reducible rfl)
                try simp only [Act.put, List.getElem_toArray, List.getElem_cons_zero, List.getElem_cons_succ, List.setIfInBounds_toArray, List.set_cons_zero, List.set_cons_succ]
                refine wpAnyH_take (i := 18) (v := ?_) rfl (by kernel_rfl) (by kernel_rfl) (by kernel_rfl) (fun _ _ _ h => h) (Or.inl ⟨by rfl, ?_⟩) hHeld ?_
                rotate_left 1
                · (intro w hSw; (try dsimp only at hSw); go_simp; try with_reducible rfl)
                try simp only [Act.put, List.getElem_toArray, List.getElem_cons_zero, List.getElem_cons_succ, List.setIfInBounds_toArray, List.set_cons_zero, List.set_cons_succ]
                refine wpAnyH_done (by kernel_rfl) ?_ _
                refine NoPanic.normal ?_
                clear hHeld
                have HV7 := hide (HV.out.trans HG7.out)
                have KW : Hid (∀ U, G w7 U → Calls Tryz.prog 16 #[ptr t, I z] U fun e w' => e = .returned (.tuple #[.agg #[I b2.at_.lv, .string b2.at_.lb, I b2.at_.id], I 0, I 0]) ∧ G U w') := fun U gU => by
                  have := waiting_t ((H5.out.1.gt.G (HG6.out.trans (HV7.out.trans gU)))) HB.out.2.2.2.1
                  rw [HHF.out.2.1] at this
                  exact this
                go_upto_region 22 with fail
                refine wp_region_noPanic ?_
                refine wp_region_held_drew (S := (fun U => G w7 U)) (by kernel_rfl) ((G.refl w7).drew) (fun hHeld => ?_)
                refine wpAnyH_take (i := 0) (v := ?_) rfl (by kernel_rfl) (by kernel_rfl) (by kernel_rfl) (fun _ _ _ h => h) (Or.inl ⟨by rfl, ?_⟩) hHeld ?_
                rotate_left 1
                · (intro w hSw; obtain ⟨q1, q2⟩ := HK.out _ (HV7.out.trans hSw); go_simp; try with_reducible rfl)
                try simp only [Act.put, List.getElem_toArray, List.getElem_cons_zero, List.setIfInBounds_toArray, List.set_cons_zero, List.set_cons_succ]
                refine wpAnyH_take (i := 1) (v := ?_) rfl (by kernel_rfl) (by kernel_rfl) (by kernel_rfl) (fun _ _ _ h => h) (Or.inl ⟨by rfl, ?_⟩) hHeld ?_
                rotate_left 1
                · (intro w hSw; obtain ⟨q1, q2⟩ := HK.out _ (HV7.out.trans hSw); go_simp; try with_reducible rfl)
                try simp only [Act.put, List.getElem_toArray, List.getElem_cons_zero, List.getElem_cons_succ, List.setIfInBounds_toArray, List.set_cons_zero, List.set_cons_succ]
                refine wpAnyH_take (i := 2) (v := ?_) rfl (by kernel_rfl) (by kernel_rfl) (by kernel_rfl) (fun _ _ _ h => h) (Or.inl ⟨by rfl, ?_⟩) hHeld ?_
                rotate_left 1
                · (intro w hSw; obtain ⟨q1, q2⟩ := HK.out _ (HV7.out.trans hSw); go_simp; try with_reducible rfl)
                try simp only [Act.put, List.getElem_toArray, List.getElem_cons_zero, List.getElem_cons_succ, List.setIfInBounds_toArray, List.set_cons_zero, List.set_cons_succ]
                refine wpAnyH_take (i := 3) (v := ?_) rfl (by kernel_rfl) (by kernel_rfl) (by kernel_rfl) (fun _ _ _ h => h) (Or.inl ⟨by rfl, ?_⟩) hHeld ?_
                rotate_left 1
                · (intro w hSw; obtain ⟨q1, q2⟩ := HK.out _ (HV7.out.trans hSw); go_simp; try with_reducible rfl)
                try simp only [Act.put, List.getElem_toArray, List.getElem_cons_zero, List.getElem_cons_succ, List.setIfInBounds_toArray, List.set_cons_zero, List.set_cons_succ]
                refine wpAnyH_take (i := 4) (v := ?_) rfl (by kernel_rfl) (by kernel_rfl) (by kernel_rfl) (fun _ _ _ h => h) (Or.inl ⟨by rfl, ?_⟩) hHeld ?_
                rotate_left 1
                · (intro w hSw; obtain ⟨q1, q2⟩ := HK.out _ (HV7.out.trans hSw); go_simp; try with_reducible rfl)
                try simp only [Act.put, List.getElem_toArray, List.getElem_cons_zero, List.getElem_cons_succ, List.setIfInBounds_toArray, List.set_cons_zero, List.set_cons_succ]
                refine wpAnyH_take (i := 5) (v := ?_) rfl (by kernel_rfl) (by kernel_rfl) (by kernel_rfl) (fun _ _ _ h => h) (Or.inl ⟨by rfl, ?_⟩) hHeld ?_
                rotate_left 1
                · (intro w hSw; obtain ⟨q1, q2⟩ := HK.out _ (HV7.out.trans hSw); go_simp; try with_reducible rfl)
                try simp only [Act.put, List.getElem_toArray, List.getElem_cons_zero, List.getElem_cons_succ, List.setIfInBounds_toArray, List.set_cons_zero, List.set_cons_succ]
                refine wpAnyH_take (i := 6) (v := ?_) rfl (by kernel_rfl) (by kernel_rfl) (by kernel_rfl) (fun _ _ _ h => h) (Or.inl ⟨by rfl, ?_⟩) hHeld ?_
                rotate_left 1
                · (intro w hSw; obtain ⟨q1, q2⟩ := HK.out _ (HV7.out.trans hSw); go_simp; try with_reducible rfl)
                try simp only [Act.put, List.getElem_toArray, List.getElem_cons_zero, List.getElem_cons_succ, List.setIfInBounds_toArray, List.set_cons_zero, List.set_cons_succ]
                refine wpAnyH_take (i := 7) (v := ?_) rfl (by kernel_rfl) (by kernel_rfl) (by kernel_rfl) (fun _ _ _ h => h) (Or.inl ⟨by rfl, ?_⟩) hHeld ?_
                rotate_left 1
                · (intro w hSw; obtain ⟨q1, q2⟩ := HK.out _ (HV7.out.trans hSw); go_simp; try with_reducible rfl)
                try simp only [Act.put, List.getElem_toArray, List.getElem_cons_zero, List.getElem_cons_succ, List.setIfInBounds_toArray, List.set_cons_zero, List.set_cons_succ]
                refine wpAnyH_ready (rs := [8, 13]) (by kernel_rfl) (by simp) (AllReadyH.cons rfl (fun K hK => ?_) (AllReadyH.cons rfl (fun K hK => ?_) AllReadyH.nil))
                · -- the call, then the variable
                  have hgc := hHeld
                  clear hHeld
                  go_simp
                  with_reducible refine (KW.out _ hgc).mono ?_
                  rintro e w3 ⟨rfl, hg3⟩
                  have HC3 := hide hg3
                  have HG3 := hide (hgc.trans hg3)
                  clear hg3 hgc
                  refine hK.out _ _ (HG3.out) (fun hHeld => ?_)
                  clear hK K
                  try simp only [Act.put, List.getElem_toArray, List.getElem_cons_zero, List.getElem_cons_succ, List.setIfInBounds_toArray, List.set_cons_zero, List.set_cons_succ]
                  refine wpAnyH_take (i := 9) (v := ?_) rfl (by kernel_rfl) (by kernel_rfl) (by kernel_rfl) (fun _ _ _ h => h) (Or.inl ⟨by rfl, ?_⟩) hHeld ?_
                  rotate_left 1
                  · (intro w hSw; go_simp; try with_reducible rfl)
                  try simp only [Act.put, List.getElem_toArray, List.getElem_cons_zero, List.getElem_cons_succ, List.setIfInBounds_toArray, List.set_cons_zero, List.set_cons_succ]
                  refine wpAnyH_take (i := 10) (v := ?_) rfl (by kernel_rfl) (by kernel_rfl) (by kernel_rfl) (fun _ _ _ h => h) (Or.inl ⟨by rfl, ?_⟩) hHeld ?_
                  rotate_left 1
                  · (intro w hSw; go_simp; try with_reducible rfl)
                  try simp only [Act.put, List.getElem_toArray, List.getElem_cons_zero, List.getElem_cons_succ, List.setIfInBounds_toArray, List.set_cons_zero, List.set_cons_succ]
                  refine wpAnyH_take (i := 11) (v := ?_) rfl (by kernel_rfl) (by kernel_rfl) (by kernel_rfl) (fun _ _ _ h => h) (Or.inl ⟨by rfl, ?_⟩) hHeld ?_
                  rotate_left 1
                  · (intro w hSw; go_simp; try with_reducible rfl)
                  try simp only [Act.put, List.getElem_toArray, List.getElem_cons_zero, List.getElem_cons_succ, List.setIfInBounds_toArray, List.set_cons_zero, List.set_cons_succ]
                  refine wpAnyH_take (i := 12) (v := ?_) rfl (by kernel_rfl) (by kernel_rfl) (by kernel_rfl) (fun _ _ _ h => h) (Or.inl ⟨by rfl, ?_⟩) hHeld ?_
                  rotate_left 1
                  · (intro w hSw; go_simp; try with_reducible rfl)
                  try simp only [Act.put, List.getElem_toArray, List.getElem_cons_zero, List.getElem_cons_succ, List.setIfInBounds_toArray, List.set_cons_zero, List.set_cons_succ]
                  refine wpAnyH_ready (rs := [13]) (by kernel_rfl) (by simp) (AllReadyH.cons rfl (fun K hK => ?_) AllReadyH.nil)
                  clear hHeld
                  go_simp
                  obtain ⟨w4, hw4⟩ : ∃ w4, w4 = w3.alloc (.cells #[I 0, .string { data := #[] }, I 0] 24) := ⟨_, rfl⟩
                  rw [← hw4]
                  have H4 : Hid (Blk w4 w3.heap.size 24 [I 0, .string { data := #[] }, I 0] ∧ G w7 w4 ∧ w7.heap.size ≤ w3.heap.size) := by rw [hw4]; exact ⟨Blk.new w3 [I 0, .string { data := #[] }, I 0] 24, HG3.out.alloc _, HG3.out.size⟩
                  obtain ⟨xb, hxb⟩ : ∃ xb, xb = w3.heap.size := ⟨_, rfl⟩
                  rw [← hxb] at H4 ⊢
                  clear hw4 hxb
                  refine hK.out _ _ (H4.out.2.1) (fun hHeld => ?_)
                  clear hK K
                  try simp only [Act.put, List.getElem_toArray, List.getElem_cons_zero, List.getElem_cons_succ, List.setIfInBounds_toArray, List.set_cons_zero, List.set_cons_succ]
                  refine wpAnyH_ready (rs := [14]) (by kernel_rfl) (by simp) (AllReadyH.cons rfl (fun K hK => ?_) AllReadyH.nil)
                  clear hHeld
                  have hcR := H4.out.1.cell
                  have hzR := H4.out.1.frozen
                  go_simp
                  have H5x := hide (sets3 (I b2.at_.lv) (.string b2.at_.lb) (I b2.at_.id) H4.out.1 H4.out.2.1 H4.out.2.2)
                  clear hcR hzR H4
                  show K _ (W3 w4 xb (I b2.at_.lv) (.string b2.at_.lb) (I b2.at_.id))
                  generalize W3 w4 xb (I b2.at_.lv) (.string b2.at_.lb) (I b2.at_.id) = w5 at H5x ⊢
                  refine hK.out _ _ (H5x.out.2.1) (fun hHeld => ?_)
                  clear hK K
                  try simp only [Act.put, List.getElem_toArray, List.getElem_cons_zero, List.getElem_cons_succ, List.setIfInBounds_toArray, List.set_cons_zero, List.set_cons_succ]
                  refine wpAnyH_take (i := 15) (v := ?_) rfl (by kernel_rfl) (by kernel_rfl) (by kernel_rfl) (fun _ _ _ h => h) (Or.inl ⟨by rfl, ?_⟩) hHeld ?_
                  rotate_left 1
                  · (intro w hSw; go_simp; try with_reducible rfl)
                  try simp only [Act.put, List.getElem_toArray, List.getElem_cons_zero, List.getElem_cons_succ, List.setIfInBounds_toArray, List.set_cons_zero, List.set_cons_succ]
                  refine wpAnyH_take (i := 16) (v := ?_) rfl (by kernel_rfl) (by kernel_rfl) (by kernel_rfl) (fun _ _ _ h => h) (Or.inl ⟨by rfl, ?_⟩) hHeld ?_
                  rotate_left 1
                  · (intro w hSw; go_simp; try with_reducible rfl)
                  try simp only [Act.put, List.getElem_toArray, List.getElem_cons_zero, List.getElem_cons_succ, List.setIfInBounds_toArray, List.set_cons_zero, List.set_cons_succ]
                  refine wpAnyH_done (by kernel_rfl) ?_ _
                  refine NoPanic.normal ?_
                  clear hHeld
                  have HVX := hide (HV7.out.trans H5x.out.2.1)
                  obtain ⟨q1, q2⟩ := HK.out _ HVX.out
                  obtain ⟨q3, q4, q5, q6, q7⟩ := HZ.out _ HVX.out
                  have d1 : (z != x) = true := by simp [HHF.out.2.2]
                  have d2 : (z == x) = false := by simp [HHF.out.2.2]
                  clear q5 q6 q7
                  go_wp2
                  exact ⟨⟨j + 1, HJL.out, by rw [hadB_yes HZZ.out rfl], by rw [HWJ.out]; exact rl1 j, HVX.out⟩, by rw [HWJ.out]; exact ms_end HJL.out⟩
                · -- the variable, then the call
                  clear hHeld
                  go_simp
                  obtain ⟨w9, hw9⟩ : ∃ w9, w9 = (w7.alloc (.cells #[I 0, .string { data := #[] }, I 0] 24)).drew := ⟨_, rfl⟩
                  rw [← hw9]
                  have H9 : Hid (Blk w9 w7.heap.size 24 [I 0, .string { data := #[] }, I 0] ∧ G w7 w9) := by rw [hw9]; exact ⟨(Blk.new w7 [I 0, .string { data := #[] }, I 0] 24).drew, ((G.refl w7).alloc _).drew⟩
                  clear hw9
                  refine hK.out _ _ (H9.out.2) (fun hHeld => ?_)
                  clear hK K
                  try simp only [Act.put, List.getElem_toArray, List.getElem_cons_zero, List.getElem_cons_succ, List.setIfInBounds_toArray, List.set_cons_zero, List.set_cons_succ]
                  refine wpAnyH_ready (rs := [8]) (by kernel_rfl) (by simp) (AllReadyH.cons rfl (fun K hK => ?_) AllReadyH.nil)
                  have hgc := hHeld
                  clear hHeld
                  go_simp
                  with_reducible refine (KW.out _ hgc).mono ?_
                  rintro e w4 ⟨rfl, hg3⟩
                  have HC4 := hide hg3
                  have HG4 := hide (hgc.trans hg3)
                  clear hg3 hgc
                  have H4 : Hid (Blk w4 w7.heap.size 24 [I 0, .string { data := #[] }, I 0] ∧ G w7 w4 ∧ w7.heap.size ≤ w7.heap.size) := ⟨H9.out.1.G HC4.out, HG4.out, Nat.le_refl _⟩
                  clear H9 HC4
                  refine hK.out _ _ (H4.out.2.1) (fun hHeld => ?_)
                  clear hK K
                  try simp only [Act.put, List.getElem_toArray, List.getElem_cons_zero, List.getElem_cons_succ, List.setIfInBounds_toArray, List.set_cons_zero, List.set_cons_succ]
                  refine wpAnyH_take (i := 9) (v := ?_) rfl (by kernel_rfl) (by kernel_rfl) (by kernel_rfl) (fun _ _ _ h => h) (Or.inl ⟨by rfl, ?_⟩) hHeld ?_
                  rotate_left 1
                  · (intro w hSw; go_simp; try with_reducible rfl)
                  try simp only [Act.put, List.getElem_toArray, List.getElem_cons_zero, List.getElem_cons_succ, List.setIfInBounds_toArray, List.set_cons_zero, List.set_cons_succ]
                  refine wpAnyH_take (i := 10) (v := ?_) rfl (by kernel_rfl) (by kernel_rfl) (by kernel_rfl) (fun _ _ _ h => h) (Or.inl ⟨by rfl, ?_⟩) hHeld ?_
                  rotate_left 1
                  · (intro w hSw; go_simp; try with_reducible rfl)
                  try simp only [Act.put, List.getElem_toArray, List.getElem_cons_zero, List.getElem_cons_succ, List.setIfInBounds_toArray, List.set_cons_zero, List.set_cons_succ]
                  refine wpAnyH_take (i := 11) (v := ?_) rfl (by kernel_rfl) (by kernel_rfl) (by kernel_rfl) (fun _ _ _ h => h) (Or.inl ⟨by rfl, ?_⟩) hHeld ?_
                  rotate_left 1
                  · (intro w hSw; go_simp; try with_reducible rfl)
                  try simp only [Act.put, List.getElem_toArray, List.getElem_cons_zero, List.getElem_cons_succ, List.setIfInBounds_toArray, List.set_cons_zero, List.set_cons_succ]
                  refine wpAnyH_take (i := 12) (v := ?_) rfl (by kernel_rfl) (by kernel_rfl) (by kernel_rfl) (fun _ _ _ h => h) (Or.inl ⟨by rfl, ?_⟩) hHeld ?_
                  rotate_left 1
                  · (intro w hSw; go_simp; try with_reducible rfl)
                  try simp only [Act.put, List.getElem_toArray, List.getElem_cons_zero, List.getElem_cons_succ, List.setIfInBounds_toArray, List.set_cons_zero, List.set_cons_succ]
                  refine wpAnyH_ready (rs := [14]) (by kernel_rfl) (by simp) (AllReadyH.cons rfl (fun K hK => ?_) AllReadyH.nil)
                  clear hHeld
                  have hcR := H4.out.1.cell
                  have hzR := H4.out.1.frozen
                  go_simp
                  have H5x := hide (sets3 (I b2.at_.lv) (.string b2.at_.lb) (I b2.at_.id) H4.out.1 H4.out.2.1 H4.out.2.2)
                  clear hcR hzR H4
                  show K _ (W3 w4 (w7.heap.size) (I b2.at_.lv) (.string b2.at_.lb) (I b2.at_.id))
                  generalize W3 w4 (w7.heap.size) (I b2.at_.lv) (.string b2.at_.lb) (I b2.at_.id) = w5 at H5x ⊢
                  refine hK.out _ _ (H5x.out.2.1) (fun hHeld => ?_)
                  clear hK K
                  try simp only [Act.put, List.getElem_toArray, List.getElem_cons_zero, List.getElem_cons_succ, List.setIfInBounds_toArray, List.set_cons_zero, List.set_cons_succ]
                  refine wpAnyH_take (i := 15) (v := ?_) rfl (by kernel_rfl) (by kernel_rfl) (by kernel_rfl) (fun _ _ _ h => h) (Or.inl ⟨by rfl, ?_⟩) hHeld ?_
                  rotate_left 1
                  · (intro w hSw; go_simp; try with_reducible rfl)
                  try simp only [Act.put, List.getElem_toArray, List.getElem_cons_zero, List.getElem_cons_succ, List.setIfInBounds_toArray, List.set_cons_zero, List.set_cons_succ]
                  refine wpAnyH_take (i := 16) (v := ?_) rfl (by kernel_rfl) (by kernel_rfl) (by kernel_rfl) (fun _ _ _ h => h) (Or.inl ⟨by rfl, ?_⟩) hHeld ?_
                  rotate_left 1
                  · (intro w hSw; go_simp; try with_reducible rfl)
                  try simp only [Act.put, List.getElem_toArray, List.getElem_cons_zero, List.getElem_cons_succ, List.setIfInBounds_toArray, List.set_cons_zero, List.set_cons_succ]
                  refine wpAnyH_done (by kernel_rfl) ?_ _
                  refine NoPanic.normal ?_
                  clear hHeld
                  generalize hxb : w7.heap.size = xb at H5x ⊢
                  replace H5x : Hid (Blk w5 xb 24 [I b2.at_.lv, .string b2.at_.lb, I b2.at_.id] ∧ G w7 w5 ∧ w7.heap.size ≤ xb) := ⟨H5x.out.1, H5x.out.2.1, Nat.le_of_eq hxb⟩
                  clear hxb
                  have HVX := hide (HV7.out.trans H5x.out.2.1)
                  obtain ⟨q1, q2⟩ := HK.out _ HVX.out
                  obtain ⟨q3, q4, q5, q6, q7⟩ := HZ.out _ HVX.out
                  have d1 : (z != x) = true := by simp [HHF.out.2.2]
                  have d2 : (z == x) = false := by simp [HHF.out.2.2]
                  clear q5 q6 q7
                  go_wp2
                  exact ⟨⟨j + 1, HJL.out, by rw [hadB_yes HZZ.out rfl], by rw [HWJ.out]; exact rl1 j, HVX.out⟩, by rw [HWJ.out]; exact ms_end HJL.out⟩
              · have d1 : (z == y) = false := by simp [hzy]
                have d2 : decide (z = y) = false := by simp [hzy]
                have HSN := hide (hadB_no (y := y) hz hzy)
                clear hz hjl hgj hj hwj
                go_wp2
                go_quiet (fail)
                generalize hV : World.drewN wr _ = V
                have HV : Hid (G w6 V) := by rw [← hV]; exact HGJ.out.drewN _
                clear hV q1 q2 HGJ
                go_wp2
                exact ⟨⟨j + 1, HJL.out, by rw [HSN.out], by rw [HWJ.out]; exact rl1 j, HV.out⟩, by rw [HWJ.out]; exact ms_end HJL.out⟩
            · have hne : j = gl.length := by omega
              subst hne
              have hjI : ¬ ((gl.length : Int) < (gl.length : Int)) := by omega
              have e : hadB y (gl.take gl.length) = true := by
                rw [List.take_length]
                exact hadB_mem (by rw [← H3.out.2.2.2.1]; exact golL_has HBK.out HB.out.2.1 HB.out.2.2.1) rfl
              rw [e]
              have HGJ := hide hgj
              clear hj hjl hgj e
              go_wp2
              exact ⟨⟨n + 1, HLT.out, by rw [HWN.out]; exact rl1 n, HGJ.out⟩, by rw [HWN.out]; exact ms_end HLT.out⟩
        · have hne : n = out.length := by omega
          subst hne
          have hnI : ¬ ((out.length : Int) < (out.length : Int)) := by omega
          have hxn : m'.lv x = none := by
            cases e : m'.lv x with
            | none => rfl
            | some q => exact absurd rfl (H4.out.2.1.rest e).1
          have HX : Hid (Ld W0 wr b t lo s' m' (noX x live) res va' vr L LR) := H5.out.1.G (HG6.out.trans hgw)
          have KW := hide (waiting_n HX.out.gt (H3.out.1.gt.iv.lv x p HP.out).xr hxn)
          have q1 := HX.out.sg.blk.cell
          clear hn hlt hgw hxn
          go_wp2_with (first | (go_at_call 16; with_reducible refine KW.out.mono ?_; rintro e w9 ⟨rfl, hg9⟩) | fail)
          go_ret
          exact ⟨rfl, s', m', res, va', vr, Nat.le_succ _, HX.out.G hg9, H5.out.2.2.2.2.1⟩
end Go.Proofs.YtkbgifhhnnfgoaaGreatDoor
