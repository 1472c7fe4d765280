/- Paths: settle. -/
import Derived.Test.YtemkilffagjmcaaDoorPj3
import Derived.LoopTactic
namespace Go.Proofs.YtemkilffagjmcaaDoor
open Go.RowKit

/-- A better one was found since. -/
def Stale (fs : List Fd) (bs : Int → Option Nat) (x : It) : Prop := bs (fs[x.1.toNat]!).n ≠ some x.1.toNat
/-- How many items a heap has, by its memory. -/
def hpLen (h : Nat) (w : World) : Nat := match w.cell? ⟨h, 1, none⟩ with | some (.slice _ n _) => n | _ => 0
theorem hpLen_eq {w : World} {h : Nat} {f v : Value} {l : List It} {t : Int} (k : HP w h f v l t) : hpLen h w = l.length := by
  have hc := k.blk.cell 1
  have hv : ∃ a c, v = .slice a l.length c := by
    rcases k.sl with ⟨rfl, rfl⟩ | ⟨g, cap, rest, rfl, _⟩ <;> exact ⟨_, _, rfl⟩
  obtain ⟨a, c, rfl⟩ := hv
  simp [hpLen, hc]
/-- What is known of a search besides its memory. -/
structure SI (fs : List Fd) (bs : Int → Option Nat) (l : List It) : Prop where
  idx : ∀ n i, bs n = some i → i < fs.length
  tot : ∀ j, j < fs.length → ∃ i, bs (fs[j]!).n = some i
  r64 : ∀ j, j < fs.length → R64 (fs[j]!).n
  dom : ∀ x ∈ l, 0 ≤ x.1 ∧ x.1 < fs.length
  hi : Hp.HI (Hp.ah (ltF fs)) l
  sz : l.length ≤ fs.length
  big : fs.length < 17179869184
  nd : l.Nodup
  keys : ∀ n, bs n ≠ none → n ∈ fs.map (·.n)
  eq : ∀ x ∈ l, x.1 = x.2
/-- What settle answers. -/
inductive Stl (fs : List Fd) (bs : Int → Option Nat) (l : List It) (c : Nat) : Value → List It → Nat → Prop
  | none : (∀ x ∈ l, Stale fs bs x) → Stl fs bs l c (.tuple #[I 0, .bool false, I 0]) [] c
  | steps (x : It) (r : List It) : x ∈ l → ¬ Stale fs bs x → c = 4096 → Stl fs bs l c (.tuple #[I 0, .bool false, I 92]) r c
  | one (x : It) (dead r : List It) : l.Perm (dead ++ x :: r) → (∀ y ∈ dead, Stale fs bs y) → ¬ Stale fs bs x → (∀ y ∈ r, Hp.ah (ltF fs) y x = false) → c ≠ 4096 → Stl fs bs l c (.tuple #[I x.1, .bool true, I 0]) r (c + 1)
set_option maxRecDepth 100000 in
set_option maxHeartbeats 2000000 in
theorem settle_any (Wb W : World) (sb B mb h : Nat) (fa fw fv v : Value) (fs : List Fd) (bs : Int → Option Nat) (l : List It) (t : Int) (c : Nat) (k : SM Wb W sb B mb h fa fw fv v fs bs l t c) (i : SI fs bs l) (hc4 : c ≤ 4096) :
    Calls Tryd.prog 39 #[ptr sb] W fun e W' => ∃ r v' l' c', e = .returned r ∧ Stl fs bs l c r l' c' ∧ SM Wb W' sb B mb h fa fw fv v' fs bs l' t c' ∧ Hp.HI (Hp.ah (ltF fs)) l' ∧ Mv Wb sTs (fun b => b = mb) W W' := by
  have HI := hide i
  have HK := hide k
  clear i k
  go_enter Tryd.func39, Tryd.ntmps39
  go_wp2_with fail
  go_loopw [] (fun wr => ∃ v1 l1 dead, SM Wb wr sb B mb h fa fw fv v1 fs bs l1 t c ∧ l.Perm (dead ++ l1) ∧ (∀ x ∈ dead, Stale fs bs x) ∧ Hp.HI (Hp.ah (ltF fs)) l1 ∧ Mv Wb sTs (fun b => b = mb) W wr) (fun wr => hpLen h wr)
  case atStart => exact ⟨v, l, [], HK.out, List.Perm.refl _, fun x hx => by simp at hx, HI.out.hi, Mv.refl _ _ _ _⟩
  case round =>
    obtain ⟨v1, l1, dead, k1, hperm, hdead, hhi, hmv⟩ := hrel
    have hc := k1.blk.cell
    match l1, k1, hperm, hhi with
    | [], k1, hperm, hhi =>
      have HPO := hide (pop_none h (.func (.func 37) #[] #[ptr B]) v1 t wr k1.hp)
      have HK1 := hide k1
      clear k1
      go_wp2_with fail
      with_reducible refine HPO.out.mono ?_
      rintro e w2 ⟨rfl, hg2⟩
      have HK2 := hide (HK1.out.G hg2)
      have HM2 := hide (hmv.trans (.of_G HK1.out.g hg2))
      clear hg2 HPO
      go_wp2_with fail
      go_ret3
      refine ⟨_, v1, [], c, rfl, .none (fun x hx => hdead x ?_), HK2.out, hhi, HM2.out⟩
      have := hperm.subset hx
      simpa using this
    | x :: l2, k1, hperm, hhi =>
      have hsub : ∀ y ∈ x :: l2, y ∈ l := fun y hy => hperm.symm.subset (List.mem_append_right _ hy)
      have hlen : l2.length < fs.length := by
        have := hperm.length_eq
        have := HI.out.sz
        simp at *
        omega
      have HPO := hide (pop_some (KF B sb fv Wb.heap.size fs) (fun a => 0 ≤ a ∧ a < (fs.length : Int)) (.func (.func 37) #[] #[ptr B]) (ltF fs) (ahF B sb fv Wb.heap.size fs) h v1 x l2 t wr (fun W' q => k1.kf.heap k1.hp q) k1.hp (fun y hy => HI.out.dom y (hsub y hy)) (Nat.lt_trans hlen HI.out.big))
      have hxd := HI.out.dom x (hsub x (by simp))
      have HK1 := hide k1
      have hfst := hhi.first (wo_F fs).ah
      simp only [List.getElem!_cons_zero] at hfst
      have HL1 := hide (hpLen_eq k1.hp)
      have HHI := hide hhi
      have HPM := hide hperm
      have HFS := hide hfst
      have HSU := hide hsub
      have HDE := hide hdead
      have HMV := hide hmv
      clear k1 hperm hfst hhi hdead hsub hlen hmv
      go_wp2_with fail
      with_reducible refine HPO.out.mono ?_
      rintro e w2 ⟨rfl, v2, l3, hp2, hperm2, hhi2, hch2, hob2⟩
      have HK2 := hide (HK1.out.heap hch2 hp2 (.inl hob2))
      have HM2 := hide (HMV.out.trans ((HK1.out.hpmv hch2).mono (fun e q => by simp at q; rcases q with rfl | rfl <;> decide) (fun _ q => q.elim)))
      have HH2 := hide (hhi2 (wo_F fs) HHI.out)
      have HP2 := hide hperm2
      clear hp2 hch2 hob2 hhi2 hperm2 HPO
      obtain ⟨j, hj⟩ : ∃ j : Nat, x.1 = j := ⟨x.1.toNat, by omega⟩
      have hjl : j < fs.length := by omega
      obtain ⟨y, hy⟩ : ∃ y, fs[j]? = some y := ⟨_, List.getElem?_eq_getElem hjl⟩
      have ey : fs[j]! = y := by simp [hy]
      obtain ⟨b, hb⟩ := HI.out.tot j hjl
      have hr := HI.out.r64 j hjl
      rw [ey] at hb hr
      have hl := HK2.out.map.lookN kyI Tryd.underlying58 Tryd.zeroValue3 (kyI_ok.2 hr)
      simp only [hb] at hl
      obtain ⟨g, cap, hfv, hg, x1, x2, x3, x4⟩ := fin_at HK2.out.fin hy
      have hc2 := HK2.out.blk.cell
      rw [hfv] at hc2
      have hjI : (j : Int) < fs.length := by omega
      have HJ := hide hj
      have HY : Hid (Stale fs bs x ↔ b ≠ j) := by
        show _ ↔ _
        unfold Stale
        rw [hj, Int.toNat_natCast, ey, hb]
        simp
      rw [hj]
      clear hc hxd hy ey hb hr hj hjl hfv
      by_cases hbj : b = j
      · subst hbj
        have hns : ¬ Stale fs bs x := fun q => HY.out.1 q rfl
        by_cases h4 : c = 4096
        · subst h4
          go_wp2_with fail
          go_quiet (fail)
          go_wp2_with fail
          go_ret3
          exact ⟨_, v2, l3, 4096, rfl, .steps x l3 (HSU.out x (by simp)) hns rfl, HK2.out.G (g_drewN _ _), HH2.out, HM2.out.trans (.of_G HK2.out.g (g_drewN _ _))⟩
        · have h4b : ((c : Int) == 4096) = false := beq_eq_false_iff_ne.2 (by omega)
          have hz2 := HK2.out.blk.frozen
          have hwc : wrap64 ((c : Int) + 1) = (c : Int) + 1 := by unfold wrap64; omega
          have H4 := hide h4
          clear h4
          go_wp2_with fail
          go_quiet (fail)
          go_wp2_with fail
          generalize hw3 : World.drewN w2 _ = w3
          have HK3 : Hid (SM Wb (w3.setCell ⟨sb, 5, none⟩ (I ((c : Int) + 1))) sb B mb h fa fw fv v2 fs bs l3 t (c + 1)) := by
            have k3 := HK2.out.G (g_drewN w2 nq)
            rw [hw3] at k3
            have hof : ∀ b, b ≠ sb → (w3.setCell ⟨sb, 5, none⟩ (I ((c : Int) + 1))).heap[b]? = w3.heap[b]? := fun b hb => Below.heap_setCell _ _ _ _ hb
            exact ⟨k3.g.setCell k3.lo.1 _, k3.blk.set 5 _, k3.box.keep (hof _ (k3.box.ne k3.blk (by decide))), k3.fin.keep (fun b hb => hof _ (fun e => by obtain ⟨_, _, ys, hy⟩ := k3.fin.own hb; exact hy.ne k3.blk (by decide) e)), k3.map.keep (hof _ (k3.map.ne k3.blk)), ⟨k3.hp.blk.keep (hof _ (k3.hp.blk.ne k3.blk (by decide))), k3.hp.sl.keep (fun b hb => hof _ (fun e => k3.hp.off k3.blk (by decide) (by decide) (.inr (by rw [← e]; exact hb))))⟩, k3.lo, k3.lv⟩
          have HM3 : Hid (Mv Wb sTs (fun b => b = mb) W (w3.setCell ⟨sb, 5, none⟩ (I ((c : Int) + 1)))) := by
            have k3 := HK2.out.G (g_drewN w2 nq)
            have m3 : Mv Wb sTs (fun b => b = mb) w2 (w2.drewN nq) := .of_G HK2.out.g (g_drewN w2 nq)
            rw [hw3] at k3 m3
            refine (HM2.out.trans m3).trans (.of_chg k3.g (chg_setCell (F := fun b => b = sb) _ _ (.inl rfl)) (fun b hb => by rw [hb]; exact k3.lo.1) (fun b e xs hb hF => ?_) (fun b es c hb hF => ?_))
            · subst hF; rw [(hb.type k3.blk).1]; decide
            · subst hF; exact (k3.blk.nomap hb).elim
          have HST : Hid (Stl fs bs l c (.tuple #[I (b : Int), .bool true, I 0]) l3 (c + 1)) := by
            have := Stl.one (fs := fs) (bs := bs) (l := l) (c := c) x dead l3 (HPM.out.trans (List.Perm.append_left dead (List.Perm.cons x HP2.out.symm))) HDE.out hns (fun y hy => HFS.out y (List.mem_cons_of_mem _ (HP2.out.subset hy))) H4.out
            rw [HJ.out] at this
            exact this
          go_ret3
          exact ⟨_, v2, l3, c + 1, rfl, HST.out, HK3.out, HH2.out, HM3.out⟩
      · have hne : ((b : Int) == (j : Int)) = false := beq_eq_false_iff_ne.2 (by omega)
        have HREL : Hid (∃ v1 l1 dead, SM Wb w2 sb B mb h fa fw fv v1 fs bs l1 t c ∧ l.Perm (dead ++ l1) ∧ (∀ x ∈ dead, Stale fs bs x) ∧ Hp.HI (Hp.ah (ltF fs)) l1 ∧ Mv Wb sTs (fun b => b = mb) W w2) := by
          refine ⟨v2, l3, dead ++ [x], HK2.out, ?_, fun y hy => ?_, HH2.out, HM2.out⟩
          · refine HPM.out.trans ?_
            rw [List.append_assoc]
            exact List.Perm.append_left dead (List.Perm.cons x HP2.out.symm)
          · rcases List.mem_append.1 hy with q | q
            · exact HDE.out y q
            · simp at q; subst q; exact HY.out.2 hbj
        have HMS : Hid (hpLen h w2 < hpLen h wr) := by
          show _ < _
          rw [HL1.out, hpLen_eq HK2.out.hp, HP2.out.length_eq]
          simp
        go_wp2_with fail
        go_quiet (fail)
        go_wp2_with fail
        go_roundw
        case rel =>
          obtain ⟨va, la, da, ka, h1, h2, h3, h4⟩ := HREL.out
          exact ⟨va, la, da, ka.G (g_drewN _ _), h1, h2, h3, h4.trans (.of_G ka.g (g_drewN _ _))⟩
        case measure => exact HMS.out
end Go.Proofs.YtemkilffagjmcaaDoor
