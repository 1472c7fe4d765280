/- DiskCrash. -/
import Derived.Test.YtbjbphhcmmaaoaaCr5
namespace Go.Proofs.Ytbjbphhcmmaaoaa
open Go.RowKit

/-- The rounds that came in. -/
def Rds (w : World) (b off R : Nat) (E : Nat → Rd) : Prop := ∀ i, i < R → w.rangeAt b (off + i * 4) [(E i).v1, (E i).v2, (E i).kv, .bool (E i).dk]
def RdsV (w : World) (v : Value) (R : Nat) (E : Nat → Rd) : Prop := ∃ a cap, v = .slice a R cap ∧ (R = 0 ∨ ∃ b off, a = some ⟨b, off, none⟩ ∧ Rds w b off R E) ∧ ∀ i, i < R → RdOk w (E i)
theorem Om.as {w W W1 W3 : World} {p n B B' g bx : Nat} {F : Nat → Prop} {m m' : DM} {X : Nat → Value} {L4 : List Value} (h : CS w W p n B g F m X) (g1 : G W W1) (hb : Blk W1 bx 31 L4) (hbx : W.heap.size ≤ bx) (k : Om W1 ⟨p, 0, none⟩ F m' B' W3) (hn : m'.n = n) (ho : m'.on) (he : m'.pend = []) : ∃ F', AS w W3 p n B' g bx 0 F' m' m.laid L4 := by
  obtain ⟨F', h1, h2, h3, h4⟩ := k
  have z1 := h.gw.size
  have z2 := h3.size
  have z3 := g1.size
  have zg := h.r.gl
  refine ⟨F', (h.gw.trans g1).trans2' h3 (fun k hk => (h.fb k hk).1), h1, hn, ho, he, h2, fun k hk => ?_, hb.chg h3 (fun e => by have := (h.fb _ e).2; omega), by omega, X, ?_⟩
  · rcases h4 k hk with x | x
    · exact ⟨(h.fb k x).1, by have := (h.fb k x).2; omega⟩
    · omega
  · have hr := (h.r.G g1).turn (F' := F') (fun k hk e => (h4 k e).resolve_right (fun x => by omega))
    exact hr.chg h3 h.r.nf (fun i hi j hj => (h.r.b i hi j hj).1)
theorem AS.cs {w W : World} {p n B g bx : Nat} {F : Nat → Prop} {m : DM} {l0 : List Nat} {L4 : List Value} (h : AS w W p n B g bx n F m l0 L4) : ∃ X, CS w W p n B g F m X := by
  obtain ⟨X, hr⟩ := h.r
  refine ⟨X, h.gw, h.s, h.hn, h.ho, h.he, h.fw, h.fb, hr.c, fun i hi => ?_, hr.b, hr.f, hr.nf, hr.zg, hr.gl⟩
  have := hr.y i hi
  rw [if_pos hi] at this
  exact this
theorem sector_new (n k : Nat) (hk : k < n) : sector (DM.new n).laid k = List.replicate 128 0 := by
  have : (k + 1) * 128 ≤ n * 128 := Nat.mul_le_mul_right _ hk
  unfold sector DM.new
  simp only [List.drop_replicate, List.take_replicate]
  congr 1
  omega
/-- The row is there: the first state. -/
theorem Gr.cs {w w1 W : World} {p n : Nat} {v : Value} (h1 : 1 ≤ n) (h2 : n ≤ 4096) (g0 : G w w1) (gw : G w1 W) (hp : SlP w1 (fun k => w.heap.size ≤ k ∧ k < w1.heap.size) (.pointer (some ⟨p, 0, none⟩)) (some (DM.new n))) (h : Gr W w1.heap.size n v) :
    ∃ g cap X, v = .slice (some ⟨g, 0, none⟩) n cap ∧ CS w W p n 0 g (fun k => w.heap.size ≤ k ∧ k < w1.heap.size) (DM.new n) X := by
  obtain ⟨xs, ho, hx⟩ := h
  have z1 := g0.size
  have z2 := gw.size
  have hlen : xs.length = n * 1 := ho.1
  rcases ho.2 with ⟨_, hn⟩ | ⟨g, cap, cur, rfl, hb, hgg, rest⟩
  · omega
  · have hgl : g < W.heap.size := (Array.getElem?_eq_some_iff.1 hgg).1
    refine ⟨g, cap, fun i => xs[i]?.getD (.slice none 0 0), rfl, g0.trans gw, hp.G gw, rfl, ⟨rfl, rfl⟩, rfl, ⟨Nat.le_refl _, Nat.le_refl _, Nat.le_refl _⟩, fun k hk => ⟨hk.1, by omega⟩, fun i hi => ?_, fun i hi => ?_, fun i hi j hj => ?_, fun o => by simp [World.frozen?, hgg], fun e => by omega, by omega, hgl⟩
    · have he : xs[i]? = some xs[i] := List.getElem?_eq_getElem (by omega)
      have := ho.cells (g := g) rfl i xs[i] he
      rw [Addr.add_mid, Nat.zero_add] at this
      rw [this, he]
      rfl
    · have he : xs[i]? = some xs[i] := List.getElem?_eq_getElem (by omega)
      rw [he, sector_new n i hi]
      exact (hx xs[i] (List.getElem_mem _)).1
    · have he : xs[i]? = some xs[i] := List.getElem?_eq_getElem (by omega)
      rw [he] at hj
      obtain ⟨y1, y2⟩ := hx xs[i] (List.getElem_mem _)
      obtain ⟨y3, y4⟩ := y2 j hj
      have hl := y1.lt hj
      refine ⟨fun e => by omega, fun e => y4 (by rw [e]; rfl), by omega, hl⟩
set_option maxRecDepth 100000 in
set_option maxHeartbeats 8000000 in
theorem crash_no (n : Int) (v1 v2 : Value) (hn : n < 1 ∨ 4096 < n) (w : World) : Calls Try.prog 3 #[.int .i64 n, v1, v2] w fun e w' => e = .returned (.bool true) ∧ G w w' := by
  have HS := hide (sizes_no n hn w)
  go_enter Try.func3, Try.ntmps3
  go_wp2_with fail
  refine HS.out.mono ?_
  rintro e' w1 ⟨rfl, hg⟩
  go_wp2
  go_ret
  exact ⟨rfl, hg⟩
set_option maxRecDepth 100000 in
set_option maxHeartbeats 8000000 in
theorem crash_some (n : Nat) (h1 : 1 ≤ n) (h2 : n ≤ 4096) (v av : Value) (R : Nat) (hR : R ≤ 1048576) (E : Nat → Rd) (Sm : Nat → Nat) (hS0 : Sm 0 = 0) (hS : ∀ i, i < R → Sm i + (E i).L1 + (E i).L2 ≤ Sm (i + 1)) (hSm : ∀ i, i ≤ R → Sm i ≤ 1048576) (ka : List Bool) (hkal : ka.length ≤ 1073741824) (w : World) (hv : RdsV w v R E) (hka : Keeps w av ka) (hkan : av = .slice none 0 0 ∨ ∃ ad n c, av = .slice (some ad) n c) :
    Calls Try.prog 3 #[.int .i64 n, v, av] w fun e w' => e = .returned (.bool true) ∧ G w w' := by
  have HS := hide (sizes_yes n h1 h2 w)
  obtain ⟨a1, c1, rfl, hv1, hk1⟩ := hv
  have HV1 := hide hv1
  have HK1 := hide hk1
  have HKA := hide hka
  have HKAN := hide hkan
  have HSS := hide hS
  have HSM := hide hSm
  obtain ⟨i0, hi, hz0, hz1, hz2⟩ := info_u8
  have e1 : madeCells (bv 0).cells ((128 : Int).toNat * 1) = ((List.replicate 128 0).map bv).toArray := made_u8 128
  have HMK := hide (fun W : World => run_make (P := Try.prog) W 28 5 i0 (bv 0) Try.underlying28 hi hz0 .i64 .i64 128 128 (by decide) (by decide) (by rw [hz2]; decide) (by decide))
  rw [hz1, e1, show (128 : Int).toNat = 128 from rfl] at HMK
  clear hv1 hk1 hka hkan hi hz0 hz1 hz2 e1 hS hSm
  go_enter Try.func3, Try.ntmps3
  go_wp2_with fail
  refine HS.out.mono ?_
  rintro e' w1 ⟨q, rfl, hg, hp⟩
  obtain ⟨p, hq, _⟩ := id hp
  cases hq
  have HG := hide hg
  have HP := hide hp
  clear hg hp HS
  go_wp2_with fail
  go_loopw [10, 11] (fun x i W => ∃ k : Nat, k ≤ n ∧ i = .int .i64 k ∧ G w1 W ∧ Gr W w1.heap.size k x) (fun _ i _ => n - (RowKit.intOf i).toNat)
  case atStart => exact ⟨0, by omega, rfl, G.refl _, [], World.ownsRow_nil _ _ _ _, fun x hx => by simp at hx⟩
  case round =>
    obtain ⟨k, hk, rfl, hg, hgr⟩ := hrel
    have HGW := hide hg
    have HGR := hide hgr
    clear hg hgr
    by_cases hlt : k < n
    · have hkI : (k : Int) < (n : Int) := by omega
      go_wp2_with fail
      rw [HMK.out]
      have HBM := hide (Blk.new wr ((List.replicate 128 0).map bv) 5)
      have HGM := hide ((G.refl wr).alloc (.cells ((List.replicate 128 0).map bv).toArray 5))
      generalize wr.alloc (.cells ((List.replicate 128 0).map bv).toArray 5) = w2 at HBM HGM ⊢
      have hbb := HBM.out.bytes
      rw [List.length_replicate] at hbb
      obtain ⟨v', w', hrun, hch, hgr', _⟩ := app_row 27 (by omega) HGW.out.size HGR.out HGM.out hbb
      have HRUN := hide hrun
      have HGN : Hid (G w1 w') := HGW.out.trans2' hch (fun j hj => by obtain ⟨xs, ho, _⟩ := HGR.out; exact (World.ownsRow.lt ho j hj).1)
      have HGR2 := hide hgr'
      clear hrun hch hgr' hbb HBM HGR
      go_wp2_with (first | (at_builtin; refine wpList_append_run rfl _ _ 27 rfl u10 (.slice (some ⟨w2.heap.size, 0, none⟩) 1 1) rfl rfl HRUN.out ?_) | fail)
      clear HRUN
      go_wp2
      go_roundw
      case rel => exact ⟨k + 1, by omega, by go_num, HGN.out, HGR2.out⟩
      case measure => simp [RowKit.intOf]; omega
    · obtain rfl : k = n := by omega
      obtain ⟨g, cap, X0, rfl, hcs0⟩ := Gr.cs h1 h2 HG.out HGW.out HP.out HGR.out
      have HCS0 : Hid (∃ F m X, CS w wr p k 0 g F m X) := ⟨_, _, _, hcs0⟩
      clear hcs0 HGR HGW HP HG HMK
      go_wp2_with fail
      go_loopw [8, 12, 13, 14, 15] (fun _ i _ _ _ W => ∃ j : Nat, j ≤ R ∧ i = .int .i64 j ∧ ∃ F m X, CS w W p k (Sm j + j) g F m X) (fun _ i _ _ _ _ => R - (RowKit.intOf i).toNat)
      case atStart => exact ⟨0, by omega, rfl, by rw [hS0]; exact HCS0.out⟩
      case round =>
        obtain ⟨j, hj, rfl, F, m, X, hcs⟩ := hrel
        have HCS := hide hcs
        clear hcs HCS0
        by_cases hjl : j < R
        · obtain ⟨b, off, rfl, hrds⟩ := HV1.out.resolve_left (by omega)
          have HX := hide (rangeAt_G (hrds j hjl) HCS.out.gw)
          have HO := hide (HK1.out j hjl)
          have HSJ := hide (HSS.out j hjl)
          have HSB := hide (HSM.out (j + 1) (by omega))
          generalize E j = r at HX HO HSJ
          obtain ⟨v1, v2, kv, dk, L1, L2, E1, E2, ks⟩ := r
          obtain ⟨a1', c1', rfl⟩ : ∃ a c, v1 = .slice a L1 c := by obtain ⟨a, c, h, _⟩ := HO.out.a; exact ⟨_, _, h⟩
          obtain ⟨a2', c2', rfl⟩ : ∃ a c, v2 = .slice a L2 c := by obtain ⟨a, c, h, _⟩ := HO.out.b; exact ⟨_, _, h⟩
          obtain ⟨a3', c3', rfl⟩ : ∃ a c, kv = .slice a ks.length c := by obtain ⟨a, c, h, _⟩ := HO.out.k; exact ⟨_, _, h⟩
          have HBX := hide (Blk.new wr [.slice a1' L1 c1', .slice a2' L2 c2', .slice a3' ks.length c3', .bool dk] 31)
          have HGX := hide ((G.refl wr).alloc (.cells #[.slice a1' L1 c1', .slice a2' L2 c2', .slice a3' ks.length c3', .bool dk] 31))
          have HR1 : Hid ((wr.alloc (.cells #[.slice a1' L1 c1', .slice a2' L2 c2', .slice a3' ks.length c3', .bool dk] 31)).rangeAt wr.heap.size 0 [.slice a1' L1 c1', .slice a2' L2 c2', .slice a3' ks.length c3', .bool dk]) := fun j v hv => by rw [Nat.zero_add]; simpa using hv
          have hFo : ∀ x, x < w.heap.size → ¬ F x := fun x hx e => by have := (HCS.out.fb x e).1; omega
          have HRN := hide (round_any ⟨p, 0, none⟩ F m (Sm j + j) k HCS.out.hn HCS.out.ho HCS.out.he HCS.out.fw (.slice a1' L1 c1') (.slice a2' L2 c2') (.slice a3' ks.length c3') dk L1 L2 HO.out.l1 HO.out.l2 (by have h9 := HSJ.out; have h8 := HSB.out; (try simp only at h9); omega) E1 E2 ks HO.out.l3 _ (HO.out.a.G (HCS.out.gw.trans HGX.out)) (HO.out.b.G (HCS.out.gw.trans HGX.out)) (HO.out.k.G (HCS.out.gw.trans HGX.out)) HO.out.kn (fun x hx => hFo x (HO.out.la x hx)) (fun x hx => hFo x (HO.out.lb x hx)) (fun x hx => hFo x (HO.out.lk x hx)) (fun x hx => Nat.lt_of_lt_of_le (HO.out.lb x hx) (HCS.out.gw.trans HGX.out).size) (fun x hx => Nat.lt_of_lt_of_le (HO.out.lk x hx) (HCS.out.gw.trans HGX.out).size) (HCS.out.s.G HGX.out) (fun x hx => Nat.lt_of_lt_of_le (HCS.out.fb x hx).2 HGX.out.size))
          clear hrds hFo HV1
          go_wp2_with (first | (refine wpList_load_mid rfl 31 _ rfl b (off + j * 4) rfl [.slice a1' L1 c1', .slice a2' L2 c2', .slice a3' ks.length c3', .bool dk] _ HX.out Try.underlying31 rfl (by kernel_rfl) ?_) | (refine wpList_load_mid rfl 31 _ rfl wr.heap.size 0 rfl [.slice a1' L1 c1', .slice a2' L2 c2', .slice a3' ks.length c3', .bool dk] _ HR1.out Try.underlying31 rfl (by kernel_rfl) ?_) | fail)
          refine HRN.out.mono ?_
          rintro e' w3 ⟨rfl, hom⟩
          have hom2 := hom.less (B' := Sm (j + 1) + (j + 1)) (by have h9 := HSJ.out; (try simp only at h9); omega)
          obtain ⟨F', has⟩ := hom2.as HCS.out HGX.out HBX.out (Nat.le_refl _) HCS.out.hn ⟨rfl, rfl⟩ rfl
          have HSEC : Hid (∀ i, i < k → lastF (fun j => ks[j]? == some true) (vals k E2 L2) i (lastF (fun _ => true) (vals k E1 L1) i (sector m.laid i) (vals k E1 L1).length) (vals k E2 L2).length = sector (rndM m (vals k E1 L1) (vals k E2 L2) ks).laid i) := fun i hi => by
            obtain ⟨_, _, hd⟩ := HCS.out.s
            have hmn := HCS.out.hn
            exact (rnd_sector hd.ok (by rw [hmn]; exact vals_ok k E1 L1) (by rw [hmn]; exact vals_ok k E2 L2) ks (by rw [hmn]; exact hi)).symm
          generalize hm' : rndM m (vals k E1 L1) (vals k E2 L2) ks = m' at has HSEC
          have HAS0 := hide has
          generalize m.laid = l0 at HAS0 HSEC
          clear hm' hom hom2 has HRN HR1 HBX HGX HX HCS
          go_wp2_with fail
          generalize wr.heap.size = bx at HAS0 ⊢
          go_loopw [14] (fun i W => ∃ t : Nat, t ≤ k ∧ i = .int .i64 t ∧ AS w W p k (Sm (j + 1) + (j + 1)) g bx t F' m' l0 [.slice a1' L1 c1', .slice a2' L2 c2', .slice a3' ks.length c3', .bool dk]) (fun i _ => k - (RowKit.intOf i).toNat)
          case atStart => exact ⟨0, by omega, rfl, HAS0.out⟩
          case round =>
            obtain ⟨t, ht, rfl, has⟩ := hrel
            have HAS := hide has
            clear has HAS0
            by_cases htl : t < k
            · have htI : (t : Int) < (k : Int) := by omega
              obtain ⟨X, hrow⟩ := HAS.out.r
              have hxc := hide (hrow.c t htl)
              have hyb := hrow.y t htl
              rw [if_neg (Nat.lt_irrefl _)] at hyb
              have HYB := hide hyb
              have HB0 := hide (hrow.b t htl)
              have HFZ := hide hrow.f
              have HGL := hide hrow.gl
              have HNF := hide hrow.nf
              have HZG := hide hrow.zg
              have HBX := hide HAS.out.bb
              have HBG := hide HAS.out.bg
              generalize X t = x0 at hxc hyb HYB HB0
              clear hrow hyb
              go_wp2_with fail
              refine wp_region_noPanic ?_
              refine wp_region_L (S := (fun W => (∀ j, W.cell? ⟨bx, j, none⟩ = ([.slice a1' L1 c1', .slice a2' L2 c2', .slice a3' ks.length c3', .bool dk] : List Value)[j]?) ∧ W.cell? ⟨g, t, none⟩ = some (x0))) 12 (by kernel_rfl) (⟨HBX.out.drew.cell, hxc.out⟩) (fun hHeld => ?_)
              refine wpAnyL_take (i := 0) (v := ?_) rfl (by kernel_rfl) (by kernel_rfl) (by kernel_rfl) (by kernel_rfl) (fun _ _ _ h => h) (Or.inl ⟨by rfl, ?_⟩) hHeld ?_
              rotate_left 1
              · (intro w hSw; (try dsimp only at hSw); go_simp; try with_reducible rfl)
              try simp only [Act.put, List.getElem_toArray, List.getElem_cons_zero, List.setIfInBounds_toArray, List.set_cons_zero, List.set_cons_succ]
              refine wpAnyL_take (i := 1) (v := ?_) rfl (by kernel_rfl) (by kernel_rfl) (by kernel_rfl) (by kernel_rfl) (fun _ _ _ h => h) (Or.inl ⟨by rfl, ?_⟩) hHeld ?_
              rotate_left 1
              · (intro w hSw; (try dsimp only at hSw); go_simp; try with_reducible rfl)
              try simp only [Act.put, List.getElem_toArray, List.getElem_cons_zero, List.getElem_cons_succ, List.setIfInBounds_toArray, List.set_cons_zero, List.set_cons_succ]
              refine wpAnyL_take (i := 2) (v := ?_) rfl (by kernel_rfl) (by kernel_rfl) (by kernel_rfl) (by kernel_rfl) (fun _ _ _ h => h) (Or.inl ⟨by rfl, ?_⟩) hHeld ?_
              rotate_left 1
              · (intro w hSw; (try dsimp only at hSw); go_simp; try with_reducible rfl)
              try simp only [Act.put, List.getElem_toArray, List.getElem_cons_zero, List.getElem_cons_succ, List.setIfInBounds_toArray, List.set_cons_zero, List.set_cons_succ]
              refine wpAnyL_take (i := 3) (v := ?_) rfl (by kernel_rfl) (by kernel_rfl) (by kernel_rfl) (by kernel_rfl) (fun _ _ _ h => h) (Or.inl ⟨by rfl, ?_⟩) hHeld ?_
              rotate_left 1
              · (intro w hSw; obtain ⟨q1, q2⟩ := hSw; go_simp; try with_reducible rfl)
              try simp only [Act.put, List.getElem_toArray, List.getElem_cons_zero, List.getElem_cons_succ, List.setIfInBounds_toArray, List.set_cons_zero, List.set_cons_succ]
              refine wpAnyL_take (i := 4) (v := ?_) rfl (by kernel_rfl) (by kernel_rfl) (by kernel_rfl) (by kernel_rfl) (fun _ _ _ h => h) (Or.inl ⟨by rfl, ?_⟩) hHeld ?_
              rotate_left 1
              · (intro w hSw; (try dsimp only at hSw); go_simp; try with_reducible rfl)
              try simp only [Act.put, List.getElem_toArray, List.getElem_cons_zero, List.getElem_cons_succ, List.setIfInBounds_toArray, List.set_cons_zero, List.set_cons_succ]
              refine wpAnyL_take (i := 5) (v := ?_) rfl (by kernel_rfl) (by kernel_rfl) (by kernel_rfl) (by kernel_rfl) (fun _ _ _ h => h) (Or.inl ⟨by rfl, ?_⟩) hHeld ?_
              rotate_left 1
              · (intro w hSw; (try dsimp only at hSw); go_simp; try with_reducible rfl)
              try simp only [Act.put, List.getElem_toArray, List.getElem_cons_zero, List.getElem_cons_succ, List.setIfInBounds_toArray, List.set_cons_zero, List.set_cons_succ]
              refine wpAnyL_take (i := 6) (v := ?_) rfl (by kernel_rfl) (by kernel_rfl) (by kernel_rfl) (by kernel_rfl) (fun _ _ _ h => h) (Or.inl ⟨by rfl, ?_⟩) hHeld ?_
              rotate_left 1
              · (intro w hSw; (try dsimp only at hSw); go_simp; try with_reducible rfl)
              try simp only [Act.put, List.getElem_toArray, List.getElem_cons_zero, List.getElem_cons_succ, List.setIfInBounds_toArray, List.set_cons_zero, List.set_cons_succ]
              refine wpAnyL_take (i := 7) (v := ?_) rfl (by kernel_rfl) (by kernel_rfl) (by kernel_rfl) (by kernel_rfl) (fun _ _ _ h => h) (Or.inl ⟨by rfl, ?_⟩) hHeld ?_
              rotate_left 1
              · (intro w hSw; (try dsimp only at hSw); go_simp; try with_reducible rfl)
              try simp only [Act.put, List.getElem_toArray, List.getElem_cons_zero, List.getElem_cons_succ, List.setIfInBounds_toArray, List.set_cons_zero, List.set_cons_succ]
              refine wpAnyL_take (i := 8) (v := ?_) rfl (by kernel_rfl) (by kernel_rfl) (by kernel_rfl) (by kernel_rfl) (fun _ _ _ h => h) (Or.inl ⟨by rfl, ?_⟩) hHeld ?_
              rotate_left 1
              · (intro w hSw; (try dsimp only at hSw); go_simp; try with_reducible rfl)
              try simp only [Act.put, List.getElem_toArray, List.getElem_cons_zero, List.getElem_cons_succ, List.setIfInBounds_toArray, List.set_cons_zero, List.set_cons_succ]
              refine wpAnyL_take (i := 9) (v := ?_) rfl (by kernel_rfl) (by kernel_rfl) (by kernel_rfl) (by kernel_rfl) (fun _ _ _ h => h) (Or.inl ⟨by rfl, ?_⟩) hHeld ?_
              rotate_left 1
              · (intro w hSw; obtain ⟨q1, q2⟩ := hSw; go_simp; try with_reducible rfl)
              try simp only [Act.put, List.getElem_toArray, List.getElem_cons_zero, List.getElem_cons_succ, List.setIfInBounds_toArray, List.set_cons_zero, List.set_cons_succ]
              refine wpAnyL_one (i := 10) (by kernel_rfl) rfl (by kernel_rfl) (fun K hK => ?_)
              clear hHeld
              go_simp
              with_reducible refine (last_any k t true (.slice none 0 0) [] (.slice a1' L1 c1') L1 HO.out.l1 (by decide) E1 x0 (sector l0 t) _ ?_ ?_ ?_).mono ?_
              exact HO.out.a.G (HAS.out.gw.trans (G.drew (G.refl _)))
              exact ⟨none, 0, rfl, Nat.le_refl _, .inl rfl⟩
              exact HYB.out.G (G.drew (G.refl _))
              rintro e' w5 ⟨x5, rfl, hg, hb, hf⟩
              obtain ⟨xa5, xl5, xc5, rfl⟩ : ∃ a n c, x5 = .slice a n c := by obtain ⟨_, _, h, _⟩ := hb; exact ⟨_, _, _, h⟩
              have HG5 : Hid (G wr w5) := hide (G.trans (G.drew (G.refl _)) hg)
              have HB5 := hide hb
              have HF5 := hide hf
              clear hg hb hf
              go_wp2_with fail
              refine hK.out _ _ (⟨(HBX.out.G HG5.out).cell, (cell_chg hxc.out HG5.out.chg (F := fun _ => False) (fun h => h))⟩) (fun hHeld => ?_)
              clear hK K
              try simp only [Act.put, List.getElem_toArray, List.getElem_cons_zero, List.getElem_cons_succ, List.setIfInBounds_toArray, List.set_cons_zero, List.set_cons_succ]
              refine wpAnyL_take (i := 11) (v := ?_) rfl (by kernel_rfl) (by kernel_rfl) (by kernel_rfl) (by kernel_rfl) (fun _ _ _ h => h) (Or.inl ⟨by rfl, ?_⟩) hHeld ?_
              rotate_left 1
              · (intro w hSw; (try dsimp only at hSw); go_simp; try with_reducible rfl)
              try simp only [Act.put, List.getElem_toArray, List.getElem_cons_zero, List.getElem_cons_succ, List.setIfInBounds_toArray, List.set_cons_zero, List.set_cons_succ]
              refine wpAnyL_last (by kernel_rfl) rfl (by kernel_rfl) (fun K hK => ?_)
              clear hHeld
              have hc7 := (cell_chg hxc.out HG5.out.chg (F := fun _ => False) (fun h => h))
              have hz7 : w5.frozen? ⟨g, t, none⟩ = false := (HG5.out.frozen HGL.out).trans (HFZ.out t)
              go_simp
              refine hK.out _ _ ?_
              clear hK K
              refine NoPanic.normal ?_
              have HC6 : Hid (Chg (fun j => j = g) w5 (w5.setCell ⟨g, t, none⟩ (.slice xa5 xl5 xc5))) := hide (chg_setCell w5 _ (.inl rfl))
              have HGW6 := hide ((HAS.out.gw.trans HG5.out).trans2' HC6.out (fun j e => by rw [e]; exact HZG.out))
              have HX6 := hide (cell_set (k := t) (x := .slice xa5 xl5 xc5) (cell_chg hxc.out HG5.out.chg (F := fun _ => False) (fun h => h)))
              rw [if_pos rfl] at HX6
              have HBX6 := hide ((HBX.out.G HG5.out).chg HC6.out HBG.out)
              have HFN : Hid (∀ x, Value.blk (.slice xa5 xl5 xc5) x → ¬ F' x ∧ x ≠ g ∧ w.heap.size ≤ x) := fun x hx => by
                rcases HF5.out x hx with e | e
                · exact ⟨(HB0.out x e).1, (HB0.out x e).2.1, (HB0.out x e).2.2.1⟩
                · simp only [World.drew] at e
                  exact ⟨fun e' => by have := (HAS.out.fb x e').2; omega, by have := HGL.out; omega, by have := HAS.out.gw.size; omega⟩
              have HY6 := hide (HB5.out.chg HC6.out (fun x hx => (HFN.out x hx).2.1))
              have HFZ6 : Hid (∀ o, (w5.setCell ⟨g, t, none⟩ (.slice xa5 xl5 xc5)).frozen? ⟨g, o, none⟩ = false) := fun o => by
                have := (HG5.out.frozen (o := o) HGL.out).trans (HFZ.out o)
                simpa using this
              have HGL6 : Hid (g < (w5.setCell ⟨g, t, none⟩ (.slice xa5 xl5 xc5)).heap.size) := by
                have := HG5.out.size
                have := HGL.out
                unfold Hid
                simp
                omega
              have HSZ6 : Hid (wr.heap.size ≤ (w5.setCell ⟨g, t, none⟩ (.slice xa5 xl5 xc5)).heap.size) := by
                have := HG5.out.size
                unfold Hid
                simp
                omega
              have HPUT := hide (fun W2 x2 => HAS.out.put (W2 := W2) (x2 := x2) htl HG5.out HB5.out HFN.out)
              have hkp : (fun j : Nat => true || (([] : List Bool)[j]? == some true)) = (fun _ : Nat => true) := rfl
              rw [hkp] at HY6
              generalize hy1 : lastF (fun _ => true) (vals k E1 L1) t (sector l0 t) (vals k E1 L1).length = y1 at HY6
              have HY1 := hide hy1
              clear hkp hy1
              generalize w5.setCell ⟨g, t, none⟩ (.slice xa5 xl5 xc5) = w6 at HC6 HGW6 HX6 HBX6 HY6 HFZ6 HGL6 HSZ6 HPUT ⊢
              clear HC6 HG5 HB5 HF5 hxc HYB HB0 HFZ HGL HBX HBG
              go_wp2_with fail
              refine wp_region_noPanic ?_
              refine wp_region_L (S := (fun W => (∀ j, W.cell? ⟨bx, j, none⟩ = ([.slice a1' L1 c1', .slice a2' L2 c2', .slice a3' ks.length c3', .bool dk] : List Value)[j]?) ∧ W.cell? ⟨g, t, none⟩ = some (.slice xa5 xl5 xc5))) 14 (by kernel_rfl) (⟨HBX6.out.drew.cell, HX6.out⟩) (fun hHeld => ?_)
              refine wpAnyL_take (i := 0) (v := ?_) rfl (by kernel_rfl) (by kernel_rfl) (by kernel_rfl) (by kernel_rfl) (fun _ _ _ h => h) (Or.inl ⟨by rfl, ?_⟩) hHeld ?_
              rotate_left 1
              · (intro w hSw; (try dsimp only at hSw); go_simp; try with_reducible rfl)
              try simp only [Act.put, List.getElem_toArray, List.getElem_cons_zero, List.setIfInBounds_toArray, List.set_cons_zero, List.set_cons_succ]
              refine wpAnyL_take (i := 1) (v := ?_) rfl (by kernel_rfl) (by kernel_rfl) (by kernel_rfl) (by kernel_rfl) (fun _ _ _ h => h) (Or.inl ⟨by rfl, ?_⟩) hHeld ?_
              rotate_left 1
              · (intro w hSw; (try dsimp only at hSw); go_simp; try with_reducible rfl)
              try simp only [Act.put, List.getElem_toArray, List.getElem_cons_zero, List.getElem_cons_succ, List.setIfInBounds_toArray, List.set_cons_zero, List.set_cons_succ]
              refine wpAnyL_take (i := 2) (v := ?_) rfl (by kernel_rfl) (by kernel_rfl) (by kernel_rfl) (by kernel_rfl) (fun _ _ _ h => h) (Or.inl ⟨by rfl, ?_⟩) hHeld ?_
              rotate_left 1
              · (intro w hSw; (try dsimp only at hSw); go_simp; try with_reducible rfl)
              try simp only [Act.put, List.getElem_toArray, List.getElem_cons_zero, List.getElem_cons_succ, List.setIfInBounds_toArray, List.set_cons_zero, List.set_cons_succ]
              refine wpAnyL_take (i := 3) (v := ?_) rfl (by kernel_rfl) (by kernel_rfl) (by kernel_rfl) (by kernel_rfl) (fun _ _ _ h => h) (Or.inl ⟨by rfl, ?_⟩) hHeld ?_
              rotate_left 1
              · (intro w hSw; obtain ⟨q1, q2⟩ := hSw; go_simp; try with_reducible rfl)
              try simp only [Act.put, List.getElem_toArray, List.getElem_cons_zero, List.getElem_cons_succ, List.setIfInBounds_toArray, List.set_cons_zero, List.set_cons_succ]
              refine wpAnyL_take (i := 4) (v := ?_) rfl (by kernel_rfl) (by kernel_rfl) (by kernel_rfl) (by kernel_rfl) (fun _ _ _ h => h) (Or.inl ⟨by rfl, ?_⟩) hHeld ?_
              rotate_left 1
              · (intro w hSw; (try dsimp only at hSw); go_simp; try with_reducible rfl)
              try simp only [Act.put, List.getElem_toArray, List.getElem_cons_zero, List.getElem_cons_succ, List.setIfInBounds_toArray, List.set_cons_zero, List.set_cons_succ]
              refine wpAnyL_take (i := 5) (v := ?_) rfl (by kernel_rfl) (by kernel_rfl) (by kernel_rfl) (by kernel_rfl) (fun _ _ _ h => h) (Or.inl ⟨by rfl, ?_⟩) hHeld ?_
              rotate_left 1
              · (intro w hSw; (try dsimp only at hSw); go_simp; try with_reducible rfl)
              try simp only [Act.put, List.getElem_toArray, List.getElem_cons_zero, List.getElem_cons_succ, List.setIfInBounds_toArray, List.set_cons_zero, List.set_cons_succ]
              refine wpAnyL_take (i := 6) (v := ?_) rfl (by kernel_rfl) (by kernel_rfl) (by kernel_rfl) (by kernel_rfl) (fun _ _ _ h => h) (Or.inl ⟨by rfl, ?_⟩) hHeld ?_
              rotate_left 1
              · (intro w hSw; (try dsimp only at hSw); go_simp; try with_reducible rfl)
              try simp only [Act.put, List.getElem_toArray, List.getElem_cons_zero, List.getElem_cons_succ, List.setIfInBounds_toArray, List.set_cons_zero, List.set_cons_succ]
              refine wpAnyL_take (i := 7) (v := ?_) rfl (by kernel_rfl) (by kernel_rfl) (by kernel_rfl) (by kernel_rfl) (fun _ _ _ h => h) (Or.inl ⟨by rfl, ?_⟩) hHeld ?_
              rotate_left 1
              · (intro w hSw; obtain ⟨q1, q2⟩ := hSw; go_simp; try with_reducible rfl)
              try simp only [Act.put, List.getElem_toArray, List.getElem_cons_zero, List.getElem_cons_succ, List.setIfInBounds_toArray, List.set_cons_zero, List.set_cons_succ]
              refine wpAnyL_take (i := 8) (v := ?_) rfl (by kernel_rfl) (by kernel_rfl) (by kernel_rfl) (by kernel_rfl) (fun _ _ _ h => h) (Or.inl ⟨by rfl, ?_⟩) hHeld ?_
              rotate_left 1
              · (intro w hSw; (try dsimp only at hSw); go_simp; try with_reducible rfl)
              try simp only [Act.put, List.getElem_toArray, List.getElem_cons_zero, List.getElem_cons_succ, List.setIfInBounds_toArray, List.set_cons_zero, List.set_cons_succ]
              refine wpAnyL_take (i := 9) (v := ?_) rfl (by kernel_rfl) (by kernel_rfl) (by kernel_rfl) (by kernel_rfl) (fun _ _ _ h => h) (Or.inl ⟨by rfl, ?_⟩) hHeld ?_
              rotate_left 1
              · (intro w hSw; (try dsimp only at hSw); go_simp; try with_reducible rfl)
              try simp only [Act.put, List.getElem_toArray, List.getElem_cons_zero, List.getElem_cons_succ, List.setIfInBounds_toArray, List.set_cons_zero, List.set_cons_succ]
              refine wpAnyL_take (i := 10) (v := ?_) rfl (by kernel_rfl) (by kernel_rfl) (by kernel_rfl) (by kernel_rfl) (fun _ _ _ h => h) (Or.inl ⟨by rfl, ?_⟩) hHeld ?_
              rotate_left 1
              · (intro w hSw; (try dsimp only at hSw); go_simp; try with_reducible rfl)
              try simp only [Act.put, List.getElem_toArray, List.getElem_cons_zero, List.getElem_cons_succ, List.setIfInBounds_toArray, List.set_cons_zero, List.set_cons_succ]
              refine wpAnyL_take (i := 11) (v := ?_) rfl (by kernel_rfl) (by kernel_rfl) (by kernel_rfl) (by kernel_rfl) (fun _ _ _ h => h) (Or.inl ⟨by rfl, ?_⟩) hHeld ?_
              rotate_left 1
              · (intro w hSw; obtain ⟨q1, q2⟩ := hSw; go_simp; try with_reducible rfl)
              try simp only [Act.put, List.getElem_toArray, List.getElem_cons_zero, List.getElem_cons_succ, List.setIfInBounds_toArray, List.set_cons_zero, List.set_cons_succ]
              refine wpAnyL_one (i := 12) (by kernel_rfl) rfl (by kernel_rfl) (fun K hK => ?_)
              clear hHeld
              go_simp
              with_reducible refine (last_any k t false (.slice a3' ks.length c3') ks (.slice a2' L2 c2') L2 HO.out.l2 HO.out.l3 E2 (.slice xa5 xl5 xc5) y1 _ ?_ ?_ ?_).mono ?_
              exact HO.out.b.G (HGW6.out.trans (G.drew (G.refl _)))
              exact HO.out.k.G (HGW6.out.trans (G.drew (G.refl _)))
              exact HY6.out.G (G.drew (G.refl _))
              rintro e' w7 ⟨x7, rfl, hg, hb, hf⟩
              obtain ⟨xa7, xl7, xc7, rfl⟩ : ∃ a n c, x7 = .slice a n c := by obtain ⟨_, _, h, _⟩ := hb; exact ⟨_, _, _, h⟩
              have HG7 : Hid (G w6 w7) := hide (G.trans (G.drew (G.refl _)) hg)
              have HB7 := hide hb
              have HF7 := hide hf
              clear hg hb hf
              go_wp2_with fail
              refine hK.out _ _ (⟨(HBX6.out.G HG7.out).cell, (cell_chg HX6.out HG7.out.chg (F := fun _ => False) (fun h => h))⟩) (fun hHeld => ?_)
              clear hK K
              try simp only [Act.put, List.getElem_toArray, List.getElem_cons_zero, List.getElem_cons_succ, List.setIfInBounds_toArray, List.set_cons_zero, List.set_cons_succ]
              refine wpAnyL_take (i := 13) (v := ?_) rfl (by kernel_rfl) (by kernel_rfl) (by kernel_rfl) (by kernel_rfl) (fun _ _ _ h => h) (Or.inl ⟨by rfl, ?_⟩) hHeld ?_
              rotate_left 1
              · (intro w hSw; (try dsimp only at hSw); go_simp; try with_reducible rfl)
              try simp only [Act.put, List.getElem_toArray, List.getElem_cons_zero, List.getElem_cons_succ, List.setIfInBounds_toArray, List.set_cons_zero, List.set_cons_succ]
              refine wpAnyL_last (by kernel_rfl) rfl (by kernel_rfl) (fun K hK => ?_)
              clear hHeld
              have hc7 := (cell_chg HX6.out HG7.out.chg (F := fun _ => False) (fun h => h))
              have hz7 : w7.frozen? ⟨g, t, none⟩ = false := (HG7.out.frozen HGL6.out).trans (HFZ6.out t)
              go_simp
              refine hK.out _ _ ?_
              clear hK K
              refine NoPanic.normal ?_
              have HNX : Hid (AS w (w7.setCell ⟨g, t, none⟩ (.slice xa7 xl7 xc7)) p k (Sm (j + 1) + (j + 1)) g bx (t + 1) F' m' l0 [.slice a1' L1 c1', .slice a2' L2 c2', .slice a3' ks.length c3', .bool dk]) := by
                have hb := HB7.out
                have hs := HSEC.out t htl
                rw [HY1.out] at hs
                have hb2 : Bytes w7 (.slice xa7 xl7 xc7) (sector m'.laid t) := by rw [← hs]; exact hb
                refine HPUT.out _ _ HG7.out hb2 (fun x hx => ?_)
                rcases HF7.out x hx with e | e
                · exact HFN.out x e
                · simp only [World.drew] at e
                  have := HSZ6.out
                  exact ⟨fun e' => by have := (HAS.out.fb x e').2; omega, by have := HGL6.out; omega, by have := HAS.out.gw.size; omega⟩
              generalize w7.setCell ⟨g, t, none⟩ (.slice xa7 xl7 xc7) = w8 at HNX ⊢
              go_wp2
              go_roundw
              case rel => exact ⟨t + 1, by omega, by go_num, HNX.out⟩
              case measure => simp [RowKit.intOf]; omega
            · obtain rfl : t = k := by omega
              obtain ⟨X2, hcs2⟩ := HAS.out.cs
              have HCS2 : Hid (∃ F X, CS w wr p t (Sm (j + 1) + (j + 1)) g F m' X) := ⟨_, _, hcs2⟩
              clear hcs2 HAS HSEC
              go_wp2_with fail
              go_loopw [8, 15] (fun _ i W => ∃ u : Nat, u ≤ 2 ∧ i = .int .i64 u ∧ ∃ F X, CS w W p t (Sm (j + 1) + (j + 1)) g F m' X) (fun _ i _ => 2 - (RowKit.intOf i).toNat)
              case atStart => exact ⟨0, by omega, rfl, HCS2.out⟩
              case round =>
                obtain ⟨u, hu, rfl, F2, X3, hcs3⟩ := hrel
                have HC3 := hide hcs3
                clear hcs3 HCS2
                by_cases hul : u < 2
                · have huI : (u : Int) < 2 := by omega
                  have HHO := hide (holds_any ⟨p, 0, none⟩ F2 m' (Sm (j + 1) + (j + 1)) t HC3.out.hn HC3.out.ho HC3.out.he HC3.out.fw (by have h8 := HSB.out; omega) g cap X3 av ka hkal _ (fun i hi => ⟨HC3.out.r.c i hi, HC3.out.r.y i hi⟩) (HKA.out.G HC3.out.gw) HKAN.out HC3.out.s (fun x hx => (HC3.out.fb x hx).2))
                  go_wp2_with fail
                  refine HHO.out.mono ?_
                  rintro e' w5 ⟨rfl, hom⟩
                  have HC4 : Hid (∃ F X, CS w w5 p t (Sm (j + 1) + (j + 1)) g F m' X) := by
                    obtain ⟨F3, h3⟩ := hom.cs HC3.out
                    exact ⟨F3, X3, h3⟩
                  clear hom HHO HC3
                  go_wp2
                  go_roundw
                  case rel => exact ⟨u + 1, by omega, by go_num, HC4.out⟩
                  case measure => simp [RowKit.intOf]; omega
                · obtain rfl : u = 2 := by omega
                  go_wp2
                  go_roundw
                  case rel => exact ⟨j + 1, by omega, by go_num, F2, m', X3, HC3.out⟩
                  case measure => simp [RowKit.intOf]; omega
        · go_wp2
          go_ret
          exact ⟨rfl, HCS.out.gw⟩
end Go.Proofs.Ytbjbphhcmmaaoaa
