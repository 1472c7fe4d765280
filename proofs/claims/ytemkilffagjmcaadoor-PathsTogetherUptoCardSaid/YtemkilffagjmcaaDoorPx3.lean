/- PathsForward: the walk. -/
import Derived.Test.YtemkilffagjmcaaDoorPx1
import Derived.Test.YtemkilffagjmcaaDoorPz25
import Derived.Test.YtemkilffagjmcaaDoorPz19
import Derived.Test.YtemkilffagjmcaaDoorPn2
namespace Go.Proofs.YtemkilffagjmcaaDoor
section
open Go.RowKit

theorem cut_len {l : List Int} {i : Nat} (h : i < l.length) : (l.take i ++ l.drop (i + 1)).length = l.length - 1 := by
  rw [List.length_append, List.length_take, List.length_drop]
  omega
theorem cut_ms {n i : Nat} (h : i < n) : 2 * (n - 1) + 1 < 2 * n + 1 := by omega
theorem cut_mem {l : List Int} {i : Nat} {x u : Int} (hx : l[i]? = some x) (hu : u ∈ l) (hne : u ≠ x) : u ∈ l.take i ++ l.drop (i + 1) := by
  obtain ⟨hi, rfl⟩ := List.getElem?_eq_some_iff.1 hx
  rw [← List.take_append_drop i l, List.drop_eq_getElem_cons hi] at hu
  rcases List.mem_append.1 hu with q | q
  · exact List.mem_append_left _ q
  · rcases List.mem_cons.1 q with q | q
    · exact absurd q hne
    · exact List.mem_append_right _ q
/-- One of a list of ids is left out: two appends. -/
theorem cut_any (w : World) (lo g cap : Nat) (l : List Int) (h : Rw lo 2 1 w (.slice (some ⟨g, 0, none⟩) l.length cap) l.length (l.map I)) (i : Nat) (hi : i < l.length) (hb : l.length ≤ 1048576) (hz : lo ≤ w.heap.size) (X : Value) (hX : (cap = i + 1 ∧ X = .slice (some ⟨g, 0, none⟩) (l.length - (i + 1)) 0) ∨ (cap ≠ i + 1 ∧ X = .slice (some ⟨g, i + 1, none⟩) (l.length - (i + 1)) (cap - (i + 1)))) :
    ∃ a8 c8 w8 a9 c9 w9, (Builtin.append_ #[23, 23] 23 #[.slice none 0 0, .slice (some ⟨g, 0, none⟩) i cap]).run Tryd.prog w = .ok (.slice a8 i c8) w8 ∧ (Builtin.append_ #[23, 23] 23 #[.slice a8 i c8, X]).run Tryd.prog w8 = .ok (.slice a9 (l.length - 1) c9) w9 ∧ Rw lo 2 1 w9 (.slice a9 (l.length - 1) c9) (l.length - 1) ((l.take i ++ l.drop (i + 1)).map I) ∧ G w w9 := by
  have hcp := Rw.cap h
  have hcell : ∀ V, G w V → ∀ (j : Nat) u, (l.map I)[j]? = some u → V.cell? ⟨g, j, none⟩ = some u := fun V gV j u hj => by
    obtain ⟨g2, cap2, he, -, hc, -⟩ := (Rw.G h gV).cell (by omega)
    have : g = g2 := by simp at he; exact he.1
    subst this
    have := (List.getElem?_eq_some_iff.1 hj).1
    rw [List.length_map] at this
    rw [hc j (by omega)]
    exact hj
  have h1 : ∀ u ∈ l.map I, u.oneCell' = true := fun u hu => by
    obtain ⟨x, _, rfl⟩ := List.mem_map.1 hu
    rfl
  obtain ⟨v8, w8, q1, q2, q3, q4⟩ := app_I w lo (.slice none 0 0) 0 [] (Rw.nil _ _ _ _) ⟨g, 0, none⟩ i cap ((l.map I).take i) (by rw [List.length_take, List.length_map]; omega) (fun j u hj => by
    rw [Addr.add_mid, Nat.zero_add]
    rw [List.getElem?_take] at hj
    split at hj
    · exact hcell w (G.refl w) j u hj
    · cases hj) (fun u hu => h1 u (List.mem_of_mem_take hu)) (by omega) hz
  rw [Nat.zero_add, List.nil_append] at q2
  have hg8 : G w w8 := (q3.mono (F' := fun _ => False) (fun b hb => by simp [Value.ownBlock] at hb)).G (fun _ q => q.elim)
  have hn8 : ∀ b, v8.ownBlock = some b → w.heap.size ≤ b := fun b hb => by
    rcases q4 with q | q
    · rw [q] at hb; simp [Value.ownBlock] at hb
    · rw [q] at hb; exact Nat.le_of_eq (Option.some.inj hb)
  obtain ⟨a8, c8, rfl⟩ := Rw.form q2
  have key : ∀ (a : Addr) (c : Nat), (∀ (j : Nat) u, ((l.map I).drop (i + 1))[j]? = some u → w8.cell? (a.add j) = some u) → ∃ a9 c9 w9, (Builtin.append_ #[23, 23] 23 #[.slice a8 i c8, .slice (some a) (l.length - (i + 1)) c]).run Tryd.prog w8 = .ok (.slice a9 (l.length - 1) c9) w9 ∧ Rw lo 2 1 w9 (.slice a9 (l.length - 1) c9) (l.length - 1) ((l.take i ++ l.drop (i + 1)).map I) ∧ G w w9 := fun a c ha => by
    obtain ⟨v9, w9, r1, r2, r3, r4⟩ := app_I w8 lo (.slice a8 i c8) i ((l.map I).take i) q2 a (l.length - (i + 1)) c ((l.map I).drop (i + 1)) (by rw [List.length_drop, List.length_map]; omega) ha (fun u hu => h1 u (List.mem_of_mem_drop hu)) (by omega) (Nat.le_trans hz hg8.size)
    rw [show i + (l.length - (i + 1)) = l.length - 1 by omega, ← List.map_take, ← List.map_drop, ← List.map_append] at r2
    obtain ⟨a9, c9, rfl⟩ := Rw.form r2
    exact ⟨a9, c9, w9, r1, r2, hg8.trans' r3 hn8⟩
  rcases hX with ⟨hc, rfl⟩ | ⟨hc, rfl⟩
  · obtain ⟨a9, c9, w9, r1, r2, r3⟩ := key ⟨g, 0, none⟩ 0 (fun j u hj => by
      rw [List.getElem?_drop] at hj
      have := (List.getElem?_eq_some_iff.1 hj).1
      rw [List.length_map] at this
      omega)
    exact ⟨a8, c8, w8, a9, c9, w9, q1, r1, r2, r3⟩
  · obtain ⟨a9, c9, w9, r1, r2, r3⟩ := key ⟨g, i + 1, none⟩ (cap - (i + 1)) (fun j u hj => by
      rw [Addr.add_mid]
      rw [List.getElem?_drop] at hj
      exact hcell w8 hg8 _ u hj)
    exact ⟨a8, c8, w8, a9, c9, w9, q1, r1, r2, r3⟩
theorem fA {cap i n : Nat} (h : i < n) (hc : n ≤ cap) : ¬ ((cap : Int) < i) := by omega
theorem fB {i n : Nat} (h : i < n) : ¬ ((n : Int) < i + 1) := by omega
theorem fC (i : Nat) : ¬ ((i : Int) < 0) := by omega
theorem fD {i n : Nat} (h : i < n) : (0 : Int) < n := by omega
set_option maxRecDepth 100000 in
set_option maxHeartbeats 4000000 in
theorem ring_any (W : World) (rv : Value) (rs : List Nr) (tail : Bool) (hN : Nrs W rv rs) (hrl : rs.length ≤ 1048576) (hal : ∀ id, (netOf rs tail id).1.length ≤ 1048576) (v : Value) (nodes : List Int) (hI : Ids W v nodes) (hnl : nodes.length ≤ 1048576) (U : Int → Prop) (hU : Rng rs tail U) (hUn : ∀ u, U u → u ∈ nodes) (hUe : ∃ u, U u) :
    Calls Tryd.prog 10 #[.agg #[rv, .bool tail], v] W fun e W' => e = .returned (.bool true) ∧ G W W' := by
  obtain ⟨rva, rvc, hrv⟩ : ∃ a c, rv = .slice a rs.length c := by obtain ⟨a, c, e, _⟩ := hN; exact ⟨a, c, e⟩
  subst hrv
  have g0 : G W (W.alloc (.cells #[.slice rva rs.length rvc, .bool tail] 26)) := (G.refl W).alloc _
  have HCP := hide (copy_any (W.alloc (.cells #[.slice rva rs.length rvc, .bool tail] 26)) v nodes (hI.G g0) (by omega))
  have HBN := hide (Blk.new W [.slice rva rs.length rvc, .bool tail] 26)
  have HG0 := hide g0
  have HAL := hide hal
  have HU := hide hU
  have HUE := hide hUe
  have HSUB0 := hide hUn
  have HOK := hide hI.ok
  have HNL := hide hnl
  have HN0 := hide (hN.G g0)
  obtain ⟨nb, hnb⟩ : ∃ nb, nb = W.heap.size := ⟨_, rfl⟩
  have HNB : Hid (Blk (W.alloc (.cells #[.slice rva rs.length rvc, .bool tail] 26)) nb 26 [.slice rva rs.length rvc, .bool tail]) := by rw [hnb]; exact HBN.out
  clear g0 hN hal hU hUn hUe hI hnl HBN
  go_enter Tryd.func10, Tryd.ntmps10
  go_wp2_with fail
  rw [← hnb]
  clear hnb
  generalize W.alloc (.cells #[.slice rva rs.length rvc, .bool tail] 26) = w0 at *
  refine HCP.out.mono ?_
  rintro e w1 ⟨cv, rfl, hrc, hg1⟩
  have HRC := hide hrc
  have HG1 := hide hg1
  clear hrc hg1 HCP
  go_wp2_with fail
  go_loopw [5, 6] (fun lv bv wr => ∃ (b : Bool) (l : List Int) (lv' : Value), lv = lv' ∧ bv = .bool b ∧ Rw w0.heap.size 2 1 wr lv' l.length (l.map I) ∧ (∀ u, U u → u ∈ l) ∧ l.length ≤ 1048576 ∧ (∀ x ∈ l, R64 x) ∧ G w0 wr) (fun lv bv _ => 2 * slen lv + bN bv)
  case atStart => exact ⟨true, nodes, _, rfl, rfl, HRC.out, HSUB0.out, HNL.out, HOK.out, HG1.out⟩
  case round =>
    obtain ⟨b, l, lv, rfl, rfl, hrw, hsub, hfew, hr64, hgw⟩ := hrel
    obtain ⟨u0, hu0⟩ := HUE.out
    have hlp : 0 < l.length := List.length_pos_of_mem (hsub u0 hu0)
    obtain ⟨g, lc, rfl, -⟩ := Rw.cell hrw hlp
    have HRW := hide hrw
    have HSUB := hide hsub
    have HFEW := hide hfew
    have HR64 := hide hr64
    have HGW := hide hgw
    have HLP := hide hlp
    clear hrw hsub hfew hr64 hgw hlp hu0 HRC HG1
    cases b with
    | false =>
      have hpos : (0 : Int) < l.length := Int.ofNat_lt.2 HLP.out
      have hposd : decide ((0 : Int) < l.length) = true := decide_eq_true hpos
      have hposn : 0 < l.length := HLP.out
      go_wp2_with fail
      go_ret
      exact ⟨rfl, HG0.out.trans HGW.out⟩
    | true =>
      obtain ⟨wo, rfl⟩ : ∃ wo, wo = wr := ⟨_, rfl⟩
      go_wp2_with fail
      go_loopw [5, 6, 7] (fun lv bv iv w2 => ∃ i : Nat, lv = .slice (some ⟨g, 0, none⟩) l.length lc ∧ bv = .bool false ∧ iv = I i ∧ i ≤ l.length ∧ G wo w2) (fun _ _ iv _ => l.length - (RowKit.intOf iv).toNat)
      case atStart => exact ⟨0, rfl, rfl, rfl, Nat.zero_le _, G.refl _⟩
      case round =>
        obtain ⟨i, rfl, rfl, rfl, hi, hg2⟩ := hrel
        by_cases hil : i < l.length
        · have hiI : (i : Int) < l.length := Int.ofNat_lt.2 hil
          obtain ⟨x, hx⟩ : ∃ x, l[i]? = some x := ⟨_, List.getElem?_eq_getElem hil⟩
          have hwi : wrap64 ((i : Int) + 1) = (i : Int) + 1 := wone6 i (Nat.le_trans (Nat.le_of_lt hil) HFEW.out)
          have HCL : Hid (∀ V, G wo V → ∀ (o : Nat) y, l[o]? = some y → V.cell? ⟨g, o, none⟩ = some (I y)) := fun V gV o y ho => by
            obtain ⟨g2, cap2, he, -, hc, -⟩ := (Rw.G HRW.out gV).cell HLP.out
            have : g = g2 := by simp at he; exact he.1
            subst this
            rw [hc o (by rw [Nat.mul_one]; exact (List.getElem?_eq_some_iff.1 ho).1), List.getElem?_map, ho]
            rfl
          have HX := hide hx
          have HIL := hide hil
          have HG2 := hide hg2
          obtain ⟨wi, rfl⟩ : ∃ wi, wi = wr := ⟨_, rfl⟩
          clear hi hg2 hil hx
          go_wp2_with fail
          go_loopw [8, 9] (fun hv kv w3 => ∃ (h : Bool) (k : Nat), hv = .bool h ∧ kv = I k ∧ k ≤ l.length ∧ G wo w3 ∧ (h = false → ∀ (m : Nat) y, m < k → l[m]? = some y → ∀ a ∈ (netOf rs tail y).1, a.2.1 ≠ x)) (fun _ kv _ => l.length - (RowKit.intOf kv).toNat)
          case atStart => exact ⟨false, 0, rfl, rfl, Nat.zero_le _, HG2.out, fun _ m y h => absurd h (by omega)⟩
          case round =>
            obtain ⟨h, k, rfl, rfl, hk, hg3, hno⟩ := hrel
            by_cases hkl : k < l.length
            · have hkI : (k : Int) < l.length := Int.ofNat_lt.2 hkl
              obtain ⟨y, hy⟩ : ∃ y, l[k]? = some y := ⟨_, List.getElem?_eq_getElem hkl⟩
              have hwk : wrap64 ((k : Int) + 1) = (k : Int) + 1 := wone6 k (Nat.le_trans (Nat.le_of_lt hkl) HFEW.out)
              obtain ⟨M, hM⟩ : ∃ M, M = (netOf rs tail y).1 := ⟨_, rfl⟩
              have HML : Hid (M.length ≤ 1048576) := by rw [hM]; exact HAL.out y
              have HOF := hide (of_any w0 wr.drew (.slice rva rs.length rvc) rs tail y HN0.out ((HGW.out.trans hg3).trans (G.drew (G.refl _))) (HR64.out y (List.mem_of_getElem? hy)) hrl)
              rw [← hM] at HOF
              have HALL : Hid (∀ V, G wr V → (fun V => (∀ o, V.cell? ⟨nb, o, none⟩ = ([.slice rva rs.length rvc, .bool tail] : List Value)[o]?) ∧ V.cell? ⟨g, k, none⟩ = some (I y)) V) := fun V gV => ⟨(HNB.out.G ((HGW.out.trans hg3).trans gV)).cell, HCL.out V (hg3.trans gV) k y hy⟩
              have HGW3 := hide (HGW.out.trans hg3)
              have HG3 := hide hg3
              have HKL := hide hkl
              have HNO := hide hno
              have HYE := hide hy
              have HM := hide hM
              obtain ⟨code, hcode⟩ : ∃ code, code = (netOf rs tail y).2 := ⟨_, rfl⟩
              rw [← hcode] at HOF
              clear hk hg3 hno hkl hy hM hcode
              go_wp2_with fail
              refine wp_region_noPanic ?_
              refine wp_region_held_drew (S := (fun V => (∀ o, V.cell? ⟨nb, o, none⟩ = ([.slice rva rs.length rvc, .bool tail] : List Value)[o]?) ∧ V.cell? ⟨g, k, none⟩ = some (I y))) (by kernel_rfl) (HALL.out _ (G.drew (G.refl _))) (fun hHeld => ?_)
              refine wpAnyH_take (i := 0) (v := ?_) rfl (by kernel_rfl) (by kernel_rfl) (by kernel_rfl) (fun _ _ _ h => h) (Or.inl ⟨by rfl, ?_⟩) hHeld ?_
              rotate_left 1
              · (intro w hSw; obtain ⟨q1, q2⟩ := hSw; go_simp; try with_reducible rfl)
              try simp only [Act.put, List.getElem_toArray, List.getElem_cons_zero, List.setIfInBounds_toArray, List.set_cons_zero, List.set_cons_succ]
              refine wpAnyH_take (i := 1) (v := ?_) rfl (by kernel_rfl) (by kernel_rfl) (by kernel_rfl) (fun _ _ _ h => h) (Or.inl ⟨by rfl, ?_⟩) hHeld ?_
              rotate_left 1
              · (intro w hSw; obtain ⟨q1, q2⟩ := hSw; go_simp; try with_reducible rfl)
              try simp only [Act.put, List.getElem_toArray, List.getElem_cons_zero, List.getElem_cons_succ, List.setIfInBounds_toArray, List.set_cons_zero, List.set_cons_succ]
              refine wpAnyH_take (i := 2) (v := ?_) rfl (by kernel_rfl) (by kernel_rfl) (by kernel_rfl) (fun _ _ _ h => h) (Or.inl ⟨by rfl, ?_⟩) hHeld ?_
              rotate_left 1
              · (intro w hSw; obtain ⟨q1, q2⟩ := hSw; go_simp; try with_reducible rfl)
              try simp only [Act.put, List.getElem_toArray, List.getElem_cons_zero, List.getElem_cons_succ, List.setIfInBounds_toArray, List.set_cons_zero, List.set_cons_succ]
              refine wpAnyH_take (i := 3) (v := ?_) rfl (by kernel_rfl) (by kernel_rfl) (by kernel_rfl) (fun _ _ _ h => h) (Or.inl ⟨by rfl, ?_⟩) hHeld ?_
              rotate_left 1
              · (intro w hSw; obtain ⟨q1, q2⟩ := hSw; go_simp; try with_reducible rfl)
              try simp only [Act.put, List.getElem_toArray, List.getElem_cons_zero, List.getElem_cons_succ, List.setIfInBounds_toArray, List.set_cons_zero, List.set_cons_succ]
              refine wpAnyH_take (i := 4) (v := ?_) rfl (by kernel_rfl) (by kernel_rfl) (by kernel_rfl) (fun _ _ _ h => h) (Or.inl ⟨by rfl, ?_⟩) hHeld ?_
              rotate_left 1
              · (intro w hSw; obtain ⟨q1, q2⟩ := hSw; go_simp; try with_reducible rfl)
              try simp only [Act.put, List.getElem_toArray, List.getElem_cons_zero, List.getElem_cons_succ, List.setIfInBounds_toArray, List.set_cons_zero, List.set_cons_succ]
              refine wpAnyH_ready (rs := [5]) (by kernel_rfl) (by simp) (AllReadyH.cons rfl (fun K hK => ?_) AllReadyH.nil)
              clear hHeld
              go_simp
              refine HOF.out.mono ?_
              rintro e w5 ⟨lv, rfl, hax, hg5⟩
              have HG5 := hide (G.trans (G.drew (G.refl wr)) hg5)
              have har := hax.arcs ((HGW3.out.trans (G.drew (G.refl wr))).trans hg5)
              obtain ⟨la5, lc5, rfl⟩ : ∃ la lc, lv = .slice la M.length lc := by obtain ⟨q1, q2, q3, -⟩ := har.at_; exact ⟨q1, q2, q3⟩
              have HA5 := hide har
              clear hax hg5 har
              go_wp2_with fail
              refine hK.out _ _ (HALL.out _ HG5.out) (fun hHeld => ?_)
              clear hK K
              try simp only [Act.put, List.getElem_toArray, List.getElem_cons_zero, List.getElem_cons_succ, List.setIfInBounds_toArray, List.set_cons_zero, List.set_cons_succ]
              refine wpAnyH_take (i := 6) (v := ?_) rfl (by kernel_rfl) (by kernel_rfl) (by kernel_rfl) (fun _ _ _ h => h) (Or.inl ⟨by rfl, ?_⟩) hHeld ?_
              rotate_left 1
              · (intro w hSw; (try dsimp only at hSw); go_simp; try with_reducible rfl)
              try simp only [Act.put, List.getElem_toArray, List.getElem_cons_zero, List.getElem_cons_succ, List.setIfInBounds_toArray, List.set_cons_zero, List.set_cons_succ]
              refine wpAnyH_take (i := 7) (v := ?_) rfl (by kernel_rfl) (by kernel_rfl) (by kernel_rfl) (fun _ _ _ h => h) (Or.inl ⟨by rfl, ?_⟩) hHeld ?_
              rotate_left 1
              · (intro w hSw; (try dsimp only at hSw); go_simp; try with_reducible rfl)
              try simp only [Act.put, List.getElem_toArray, List.getElem_cons_zero, List.getElem_cons_succ, List.setIfInBounds_toArray, List.set_cons_zero, List.set_cons_succ]
              refine wpAnyH_take (i := 8) (v := ?_) rfl (by kernel_rfl) (by kernel_rfl) (by kernel_rfl) (fun _ _ _ h => h) (Or.inl ⟨by rfl, ?_⟩) hHeld ?_
              rotate_left 1
              · (intro w hSw; (try dsimp only at hSw); go_simp; try with_reducible rfl)
              try simp only [Act.put, List.getElem_toArray, List.getElem_cons_zero, List.getElem_cons_succ, List.setIfInBounds_toArray, List.set_cons_zero, List.set_cons_succ]
              refine wpAnyH_take (i := 9) (v := ?_) rfl (by kernel_rfl) (by kernel_rfl) (by kernel_rfl) (fun _ _ _ h => h) (Or.inl ⟨by rfl, ?_⟩) hHeld ?_
              rotate_left 1
              · (intro w hSw; (try dsimp only at hSw); go_simp; try with_reducible rfl)
              try simp only [Act.put, List.getElem_toArray, List.getElem_cons_zero, List.getElem_cons_succ, List.setIfInBounds_toArray, List.set_cons_zero, List.set_cons_succ]
              refine wpAnyH_take (i := 10) (v := ?_) rfl (by kernel_rfl) (by kernel_rfl) (by kernel_rfl) (fun _ _ _ h => h) (Or.inl ⟨by rfl, ?_⟩) hHeld ?_
              rotate_left 1
              · (intro w hSw; (try dsimp only at hSw); go_simp; try with_reducible rfl)
              try simp only [Act.put, List.getElem_toArray, List.getElem_cons_zero, List.getElem_cons_succ, List.setIfInBounds_toArray, List.set_cons_zero, List.set_cons_succ]
              refine wpAnyH_done (by kernel_rfl) ?_ _
              refine NoPanic.normal ?_
              clear HOF HALL
              have HG6 := hide (HG3.out.trans HG5.out)
              clear HG3 HG5 HGW3
              go_wp2_with fail
              obtain ⟨wj, rfl⟩ : ∃ wj, wj = w5 := ⟨_, rfl⟩
              go_loopw [8, 12] (fun hv jv w4 => ∃ (h' : Bool) (j : Nat), hv = .bool h' ∧ jv = I j ∧ j ≤ M.length ∧ G wj w4 ∧ (h' = false → h = false ∧ ∀ a ∈ M.take j, a.2.1 ≠ x)) (fun _ jv _ => M.length - (RowKit.intOf jv).toNat)
              case atStart => exact ⟨h, 0, rfl, rfl, Nat.zero_le _, by first | exact G.refl _ | exact g_drewN _ _, fun q => ⟨q, fun a ha => by simp at ha⟩⟩
              case round =>
                obtain ⟨h', j, rfl, rfl, hj, hg4, hnj⟩ := hrel
                by_cases hjl : j < M.length
                · have hjI : (j : Int) < M.length := Int.ofNat_lt.2 hjl
                  obtain ⟨⟨ye, yt, yw⟩, hz⟩ : ∃ z, M[j]? = some z := ⟨_, List.getElem?_eq_getElem hjl⟩
                  obtain ⟨-, ab, aoff, rfl, -, y2, -, -⟩ := (HA5.out.G hg4).get hz
                  simp only at y2
                  have cx := HCL.out wr (HG6.out.trans hg4) i x HX.out
                  have hwj : wrap64 ((j : Int) + 1) = (j : Int) + 1 := wone6 j (Nat.le_trans (Nat.le_of_lt hjl) HML.out)
                  have HTJ : Hid (M.take (j + 1) = M.take j ++ [(ye, yt, yw)]) := by show _ = _; rw [List.take_add_one, hz]; rfl
                  have HG4 := hide hg4
                  have HJL := hide hjl
                  have HNJ := hide hnj
                  clear hj hg4 hnj hjl hz
                  cases h' with
                  | true =>
                    go_wp2_with fail
                    go_quiet (fail)
                    go_wp2_with fail
                    go_roundw
                    case rel => (try rw [hwj]); exact ⟨true, j + 1, rfl, by simp, HJL.out, HG4.out.trans (g_drewN _ _), fun q => (by cases q)⟩
                    case measure => (try rw [hwj]); simp only [RowKit.intOf]; exact ms5 HJL.out
                  | false =>
                    by_cases hyx : yt = x
                    · have hyb : (yt == x) = true := by simpa using hyx
                      clear hyx
                      go_wp2_with fail
                      go_quiet (fail)
                      go_wp2_with fail
                      go_roundw
                      case rel => (try rw [hwj]); exact ⟨true, j + 1, rfl, by simp, HJL.out, HG4.out.trans (g_drewN _ _), fun q => (by cases q)⟩
                      case measure => (try rw [hwj]); simp only [RowKit.intOf]; exact ms5 HJL.out
                    · have hyb : (yt == x) = false := beq_eq_false_iff_ne.2 hyx
                      have HNX : Hid (∀ a ∈ M.take (j + 1), a.2.1 ≠ x) := fun a ha => by
                        rw [HTJ.out] at ha
                        rcases List.mem_append.1 ha with q | q
                        · exact (HNJ.out rfl).2 a q
                        · rw [List.mem_singleton.1 q]; exact hyx
                      clear hyx
                      go_wp2_with fail
                      go_quiet (fail)
                      go_wp2_with fail
                      go_roundw
                      case rel => (try rw [hwj]); exact ⟨false, j + 1, rfl, by simp, HJL.out, HG4.out.trans (g_drewN _ _), fun _ => ⟨(HNJ.out (by first | rfl | trivial)).1, HNX.out⟩⟩
                      case measure => (try rw [hwj]); simp only [RowKit.intOf]; exact ms5 HJL.out
                · have hjI : ¬ ((j : Int) < M.length) := fun h => hjl (Int.ofNat_lt.1 h)
                  obtain rfl : j = M.length := Nat.le_antisymm hj (Nat.le_of_not_lt hjl)
                  have HREL : Hid (∃ (h : Bool) (k' : Nat), Value.bool h' = .bool h ∧ I ((k : Int) + 1) = I k' ∧ k' ≤ l.length ∧ G wo wr ∧ (h = false → ∀ (m : Nat) y, m < k' → l[m]? = some y → ∀ a ∈ (netOf rs tail y).1, a.2.1 ≠ x)) := by
                    refine ⟨h', k + 1, rfl, by simp, HKL.out, HG6.out.trans hg4, fun q m y' hm hy' => ?_⟩
                    obtain ⟨q1, q2⟩ := hnj q
                    rw [List.take_length] at q2
                    by_cases e : m = k
                    · subst e
                      rw [HYE.out] at hy'
                      cases hy'
                      rw [← HM.out]
                      exact q2
                    · exact HNO.out q1 m y' (Nat.lt_of_le_of_ne (Nat.le_of_lt_succ hm) e) hy'
                  clear hj hg4 hnj hjl
                  go_wp2_with fail
                  go_roundw
                  case rel => (try rw [hwk]); exact HREL.out
                  case measure => (try rw [hwk]); simp only [RowKit.intOf]; exact ms5 HKL.out
            · have hkI : ¬ ((k : Int) < l.length) := fun h => hkl (Int.ofNat_lt.1 h)
              obtain rfl : k = l.length := Nat.le_antisymm hk (Nat.le_of_not_lt hkl)
              have hg2 := hg3
              cases h with
              | true =>
                have HG7 := hide hg3
                clear hk hg3 hno hkl hg2
                go_wp2_with fail
                go_roundw
                case rel => (try rw [hwi]); exact ⟨i + 1, rfl, rfl, by simp, HIL.out, HG7.out⟩
                case measure => (try rw [hwi]); simp only [RowKit.intOf]; exact ms5 HIL.out
              | false =>
                have HNU : Hid (¬ U x) := fun hux => by
                  obtain ⟨u', hu', a, ha, e⟩ := HU.out x hux
                  obtain ⟨m, hm, e2⟩ := List.getElem_of_mem (HSUB.out u' hu')
                  exact hno rfl m u' hm (by rw [← e2]; exact List.getElem?_eq_getElem hm) a ha e
                have hil := HIL.out
                have hx := HX.out
                have hcp : l.length ≤ lc := Rw.cap HRW.out
                have f1 := fA hil hcp
                have f2 := fB hil
                have f3 := fC i
                have f4 := fD hil
                clear hk hg3 hno hkl
                by_cases hce : lc = i + 1
                · subst hce
                  obtain ⟨a8, c8, w8, a9, c9, w9, hrun8, hrun9, hrw9, hg9⟩ := cut_any wr w0.heap.size g (i + 1) l (Rw.G HRW.out hg2) i hil HFEW.out (HGW.out.trans hg2).size (.slice (some ⟨g, 0, none⟩) (l.length - (i + 1)) 0) (.inl ⟨rfl, rfl⟩)
                  have HRUN8 := hide hrun8
                  have HRUN9 := hide hrun9
                  have HREL : Hid (∃ (b : Bool) (l' : List Int) (lv' : Value), Value.slice a9 (l.length - 1) c9 = lv' ∧ Value.bool true = .bool b ∧ Rw w0.heap.size 2 1 w9 lv' l'.length (l'.map I) ∧ (∀ u, U u → u ∈ l') ∧ l'.length ≤ 1048576 ∧ (∀ x ∈ l', R64 x) ∧ G w0 w9) := by
                    refine ⟨true, l.take i ++ l.drop (i + 1), _, rfl, rfl, ?_, fun u hu => ?_, ?_, fun x hx => ?_, (HGW.out.trans hg2).trans hg9⟩
                    · rw [cut_len hil]
                      exact hrw9
                    · refine cut_mem hx (HSUB.out u hu) (fun e => ?_)
                      subst e
                      exact HNU.out hu
                    · rw [cut_len hil]
                      exact Nat.le_trans (Nat.sub_le _ _) HFEW.out
                    · rcases List.mem_append.1 hx with q | q
                      · exact HR64.out x (List.mem_of_mem_take q)
                      · exact HR64.out x (List.mem_of_mem_drop q)
                  have HMS := hide (cut_ms hil)
                  clear hrun8 hrun9 hrw9 hg9 hx hil hg2
                  clear hcp
                  go_wp2_with (first | (at_builtin; refine wpList_append_run rfl _ _ 23 rfl (.slice none 0 0) (.slice (some ⟨g, 0, none⟩) i (i + 1)) rfl rfl HRUN8.out ?_) | (at_builtin; refine wpList_append_run rfl _ _ 23 rfl (.slice a8 i c8) (.slice (some ⟨g, 0, none⟩) (l.length - (i + 1)) 0) rfl rfl HRUN9.out ?_) | fail)
                  go_roundw
                  case rel => exact HREL.out
                  case measure => exact HMS.out
                · have HCE := hide hce
                  obtain ⟨a8, c8, w8, a9, c9, w9, hrun8, hrun9, hrw9, hg9⟩ := cut_any wr w0.heap.size g lc l (Rw.G HRW.out hg2) i hil HFEW.out (HGW.out.trans hg2).size (.slice (some ⟨g, i + 1, none⟩) (l.length - (i + 1)) (lc - (i + 1))) (.inr ⟨hce, rfl⟩)
                  have HRUN8 := hide hrun8
                  have HRUN9 := hide hrun9
                  have HREL : Hid (∃ (b : Bool) (l' : List Int) (lv' : Value), Value.slice a9 (l.length - 1) c9 = lv' ∧ Value.bool true = .bool b ∧ Rw w0.heap.size 2 1 w9 lv' l'.length (l'.map I) ∧ (∀ u, U u → u ∈ l') ∧ l'.length ≤ 1048576 ∧ (∀ x ∈ l', R64 x) ∧ G w0 w9) := by
                    refine ⟨true, l.take i ++ l.drop (i + 1), _, rfl, rfl, ?_, fun u hu => ?_, ?_, fun x hx => ?_, (HGW.out.trans hg2).trans hg9⟩
                    · rw [cut_len hil]
                      exact hrw9
                    · refine cut_mem hx (HSUB.out u hu) (fun e => ?_)
                      subst e
                      exact HNU.out hu
                    · rw [cut_len hil]
                      exact Nat.le_trans (Nat.sub_le _ _) HFEW.out
                    · rcases List.mem_append.1 hx with q | q
                      · exact HR64.out x (List.mem_of_mem_take q)
                      · exact HR64.out x (List.mem_of_mem_drop q)
                  have HMS := hide (cut_ms hil)
                  clear hrun8 hrun9 hrw9 hg9 hx hil hg2
                  clear hcp
                  go_wp2_with (first | (at_builtin; refine wpList_append_run rfl _ _ 23 rfl (.slice none 0 0) (.slice (some ⟨g, 0, none⟩) i lc) rfl rfl HRUN8.out ?_) | (at_builtin; refine wpList_append_run rfl _ _ 23 rfl (.slice a8 i c8) (.slice (some ⟨g, i + 1, none⟩) (l.length - (i + 1)) (lc - (i + 1))) rfl rfl HRUN9.out ?_) | fail)
                  go_roundw
                  case rel => exact HREL.out
                  case measure => exact HMS.out
        · have hiI : ¬ ((i : Int) < l.length) := fun h => hil (Int.ofNat_lt.1 h)
          obtain rfl : i = l.length := Nat.le_antisymm hi (Nat.le_of_not_lt hil)
          have HREL : Hid (∃ (b : Bool) (l' : List Int) (lv' : Value), Value.slice (some ⟨g, 0, none⟩) l.length lc = lv' ∧ Value.bool false = .bool b ∧ Rw w0.heap.size 2 1 wr lv' l'.length (l'.map I) ∧ (∀ u, U u → u ∈ l') ∧ l'.length ≤ 1048576 ∧ (∀ x ∈ l', R64 x) ∧ G w0 wr) := ⟨false, l, _, rfl, rfl, Rw.G HRW.out hg2, HSUB.out, HFEW.out, HR64.out, HGW.out.trans hg2⟩
          clear hi hg2 hil
          go_wp2_with fail
          go_roundw
          case rel => exact HREL.out
          case measure => exact Nat.lt_succ_self _
end
open Go.RowKit

theorem mild_code {rs : List Nr} (id : Int) : (netOf (rs.map mildN) false id).2 = 0 := by
  unfold netOf
  split
  · rename_i r hr
    obtain ⟨q, _, e⟩ := List.mem_map.1 (List.mem_of_find?_eq_some hr)
    have e0 : r.code = 0 := by rw [← e]; rfl
    rw [if_pos e0]
  · rfl
theorem count_one {l : List Int} (h : l.Nodup) {x : Int} (hx : x ∈ l) : l.count x = 1 := by
  have h1 : l.count x ≤ 1 := List.nodup_iff_count.1 h x
  have h2 : 0 < l.count x := List.count_pos_iff.2 hx
  omega
theorem count_take {l : List Int} {k : Nat} {y x : Int} (h : l[k]? = some y) : (l.take (k + 1)).count x = (l.take k).count x + if y = x then 1 else 0 := by
  rw [List.take_add_one, h, List.count_append]
  congr 1
  simp [List.count_cons]
theorem count_le {l : List Int} (k : Nat) (x : Int) (h : l.length ≤ 1048576) : (l.take k).count x ≤ 1048576 := by
  have := List.count_le_length (a := x) (l := l.take k)
  rw [List.length_take] at this
  omega
set_option maxRecDepth 100000 in
set_option maxHeartbeats 4000000 in
theorem forward_law (W : World) (rv : Value) (rs0 : List Nr) (la : Option Addr) (lc : Nat) (nodes : List Int) (hN : Nrs W rv rs0) (hM : Mk W) (hrl : rs0.length ≤ 1048576) (hal : ∀ r ∈ rs0, r.arcs.length ≤ 1048576) (hI : Ids W (.slice la nodes.length lc) nodes) (hnl : nodes.length ≤ 1048576) :
    Calls Tryd.prog 3 #[rv, .slice la nodes.length lc] W fun e W' => e = .returned (.bool true) ∧ G W W' := by
  obtain ⟨rva, rvc, hrv⟩ : ∃ a c, rv = .slice a rs0.length c := by obtain ⟨a, c, e, _⟩ := hN; exact ⟨a, c, e⟩
  have HMI := hide (mild_any W rv rs0 hN hrl hal)
  subst hrv
  have HM := hide hM
  have HI := hide hI
  have HNL := hide hnl
  have hal2 : ∀ r ∈ rs0.map mildN, r.arcs.length ≤ 1048576 := fun r hr => by
    obtain ⟨q, hq, rfl⟩ := List.mem_map.1 hr
    have := hal q hq
    simpa [mildN] using this
  have HRL : Hid ((rs0.map mildN).length ≤ 1048576) := by show _ ≤ _; rw [List.length_map]; exact hrl
  have HC0 : Hid (∀ id, (netOf (rs0.map mildN) false id).2 = 0) := mild_code
  clear hM hN hal hrl hI hnl
  generalize hrs : rs0.map mildN = rs at *
  have HAL : Hid (∀ id, (netOf rs false id).1.length ≤ 1048576) := fun id => by
    unfold netOf
    split
    · rename_i r hr
      split
      · exact hal2 r (List.mem_of_find?_eq_some hr)
      · simp
    · simp
  clear hal2 hrs
  go_enter Tryd.func3, Tryd.ntmps3
  go_wp2_with fail
  refine HMI.out.mono ?_
  rintro e w1 ⟨mv, L, rfl, hro, hmp, hg1⟩
  have hll : L.length = rs.length := by rw [← hmp, List.length_map]
  obtain ⟨ma, mc, hmv⟩ := Rw.form hro.row
  rw [hll] at hmv
  subst hmv
  have hnr := hro.nrs
  rw [hmp] at hnr
  have HNR := hide hnr
  have HG1 := hide hg1
  have hbn := Blk.new w1 [.slice ma rs.length mc, .bool false] 26
  have gN : G w1 (w1.alloc (.cells #[.slice ma rs.length mc, .bool false] 26)) := (G.refl w1).alloc _
  have HGN := hide gN
  have HBN := hide hbn
  have c2 := hbn.cell
  clear hro hmp hg1 hnr HMI hll gN hbn
  by_cases he1 : 400 < nodes.length
  · have he2 : (400 : Int) < nodes.length := by omega
    have he3 : decide ((400 : Int) < nodes.length) = true := decide_eq_true he2
    clear he1
    go_wp2_with fail
    go_ret
    exact ⟨rfl, HG1.out.trans HGN.out⟩
  · have he2 : ¬ ((400 : Int) < nodes.length) := by omega
    have he3 : decide ((400 : Int) < nodes.length) = false := decide_eq_false he2
    have HE1 : Hid (nodes.length ≤ 400) := Nat.le_of_not_lt he1
    clear he1
    have gC : G (w1.alloc (.cells #[.slice ma rs.length mc, .bool false] 26)) ((w1.alloc (.cells #[.slice ma rs.length mc, .bool false] 26)).alloc (.cells #[.slice ma rs.length mc, .bool false, .slice none 0 0, .slice none 0 0] 30)) := (G.refl _).alloc _
    have hbs := Blk.new (w1.alloc (.cells #[.slice ma rs.length mc, .bool false] 26)) [.slice ma rs.length mc, .bool false, .slice none 0 0, .slice none 0 0] 30
    rw [World.size_alloc] at hbs
    have HG3 := hide (HGN.out.trans gC)
    have HB3 := hide (HBN.out.G gC)
    have HBS := hide hbs
    have HCP := hide (copy_any ((w1.alloc (.cells #[.slice ma rs.length mc, .bool false] 26)).alloc (.cells #[.slice ma rs.length mc, .bool false, .slice none 0 0, .slice none 0 0] 30)) _ nodes (HI.out.G (HG1.out.trans (HGN.out.trans gC))) (by have := HNL.out; omega))
    clear gC hbs
    go_wp2_with fail
    clear c2
    generalize (w1.alloc (.cells #[.slice ma rs.length mc, .bool false] 26)).alloc (.cells #[.slice ma rs.length mc, .bool false, .slice none 0 0, .slice none 0 0] 30) = w3 at *
    obtain ⟨bn, hbn⟩ : ∃ bn, bn = w1.heap.size := ⟨_, rfl⟩
    have HBL : Hid (w1.heap.size ≤ bn + 1) := by rw [hbn]; exact Nat.le_succ _
    rw [← hbn] at HB3 HBS ⊢
    clear hbn HBN HGN
    refine HCP.out.mono ?_
    rintro e w4 ⟨cv, rfl, hrc, hg4⟩
    obtain ⟨ca, cc, rfl⟩ := Rw.form hrc
    have hsn : Shn w1 w4 (bn + 1) (.slice ma rs.length mc) rs false (.slice none 0 0) (.slice none 0 0) [] [] :=
      ⟨HG3.out.trans hg4, HBS.out.G hg4, Rw.nil _ _ _ _, Rw.nil _ _ _ _, rfl, fun i id v h => by simp at h, HNR.out, HBL.out, HM.out.G HG1.out⟩
    have HOR := hide (ordp_any w1 w4 (bn + 1) (.slice ma rs.length mc) rs false _ _ [] [] (by simp) hsn HRL.out HAL.out _ nodes (Rw.ids hrc HI.out.ok) HNL.out (eachL nodes) (eachL_up nodes) (fun _ => eachL_mem))
    have HB4 := hide (HB3.out.G hg4)
    clear hrc hg4 hsn HCP HB3 HBS HG3
    go_wp2_with fail
    refine HOR.out.mono ?_
    rintro e w5 ⟨out, ok, code, asked, av5, gv5, gl5, nv5, hR, rfl, hr5, hsn5, hmv5, -, -⟩
    obtain ⟨rfl, hyes, hno⟩ := hR.says (eachL_up nodes) (Nat.le_trans (eachL_len nodes) (Nat.le_trans HE1.out (by decide))) HC0.out
    have HG5 := hide hsn5.g
    have HB5 := hide (HB4.out.mv hmv5 (by decide))
    have HR5 := hide hr5
    obtain ⟨na, nc, rfl⟩ := Rw.form hr5
    clear hR hr5 hsn5 hmv5 HOR HB4
    cases ok with
    | false =>
      obtain ⟨rfl, U, hU, hUn, hUe⟩ := hno rfl
      have c5 := HB5.out.cell
      have HRI := hide (ring_any w5 (.slice ma rs.length mc) rs false (HNR.out.G HG5.out) HRL.out HAL.out (.slice la nodes.length lc) nodes (HI.out.G (HG1.out.trans HG5.out)) HNL.out U hU (fun u hu => eachL_mem.1 (hUn u hu)) hUe)
      clear hyes hno hU hUn hUe
      go_wp2_with fail
      refine HRI.out.mono ?_
      rintro e w6 ⟨rfl, hg6⟩
      go_wp2_with fail
      go_ret
      exact ⟨rfl, HG1.out.trans (HG5.out.trans hg6)⟩
    | true =>
      obtain ⟨hnd, hmem, hfw⟩ := hyes rfl
      have HND := hide hnd
      have HMEM : Hid (∀ x, x ∈ out ↔ x ∈ nodes) := fun x => (hmem x).trans eachL_mem
      have HFW := hide hfw
      have hol : out.length ≤ 1048576 := by
        have := hnd.length_le_of_subset (l₂ := nodes) (fun x hx => (HMEM.out x).1 hx)
        have := HNL.out
        omega
      have HOL := hide hol
      have HCN : Hid (∀ V, G w5 V → ∀ (o : Nat) x, nodes[o]? = some x → ∃ lb lo, la = some ⟨lb, lo, none⟩ ∧ V.cell? ⟨lb, lo + o, none⟩ = some (I x)) := fun V gV o x ho => by
        obtain ⟨lb, lo, e, c⟩ := (HI.out.G (HG1.out.trans (HG5.out.trans gV))).cellAt ho
        exact ⟨lb, lo, e, c⟩
      have HCO : Hid (∀ V, G w5 V → ∀ (o : Nat) x, out[o]? = some x → ∃ g, na = some ⟨g, 0, none⟩ ∧ V.cell? ⟨g, o, none⟩ = some (I x)) := fun V gV o x ho => by
        have hop := (List.getElem?_eq_some_iff.1 ho).1
        obtain ⟨g2, cap2, he, -, hc, -⟩ := (Rw.G HR5.out gV).cell (Nat.zero_lt_of_lt hop)
        refine ⟨g2, by simp at he; exact he.1, ?_⟩
        rw [hc o (by rw [Nat.mul_one]; exact hop), List.getElem?_map, ho]
        rfl
      clear hyes hno hnd hmem hfw hol
      go_wp2_with fail
      go_loopw [10] (fun iv wr => ∃ i : Nat, iv = I i ∧ i ≤ nodes.length ∧ G w5 wr) (fun iv _ => nodes.length - (RowKit.intOf iv).toNat)
      case atStart => exact ⟨0, rfl, Nat.zero_le _, G.refl _⟩
      case round =>
        obtain ⟨i, rfl, hi, hg⟩ := hrel
        by_cases hil : i < nodes.length
        · have hiI : (i : Int) < nodes.length := Int.ofNat_lt.2 hil
          obtain ⟨x, hx⟩ : ∃ x, nodes[i]? = some x := ⟨_, List.getElem?_eq_getElem hil⟩
          have hwi : wrap64 ((i : Int) + 1) = (i : Int) + 1 := wone6 i (Nat.le_trans (Nat.le_of_lt hil) HNL.out)
          have HX := hide hx
          have HIL := hide hil
          have HG := hide hg
          have HONE := hide (count_one HND.out ((HMEM.out x).2 (List.mem_of_getElem? hx)))
          clear hi hg hil hx
          go_wp2_with fail
          go_loopw [11, 12] (fun cv kv w6 => ∃ k : Nat, cv = I (((out.take k).count x : Nat) : Int) ∧ kv = I k ∧ k ≤ out.length ∧ G w5 w6) (fun _ kv _ => out.length - (RowKit.intOf kv).toNat)
          case atStart => exact ⟨0, by simp, rfl, Nat.zero_le _, HG.out⟩
          case round =>
            obtain ⟨k, rfl, rfl, hk, hg6⟩ := hrel
            by_cases hkl : k < out.length
            · have hkI : (k : Int) < out.length := Int.ofNat_lt.2 hkl
              obtain ⟨y, hy⟩ : ∃ y, out[k]? = some y := ⟨_, List.getElem?_eq_getElem hkl⟩
              have hwk : wrap64 ((k : Int) + 1) = (k : Int) + 1 := wone6 k (Nat.le_trans (Nat.le_of_lt hkl) HOL.out)
              obtain ⟨lb, lo, rfl, cx⟩ := HCN.out wr hg6 i x HX.out
              obtain ⟨g, rfl, cy⟩ := HCO.out wr hg6 k y hy
              have hct := count_take (x := x) hy
              have hcb := count_le (l := out) k x HOL.out
              obtain ⟨n, hn⟩ : ∃ n, n = (out.take k).count x := ⟨_, rfl⟩
              rw [← hn] at hct hcb ⊢
              have hwn : wrap64 ((n : Int) + 1) = (n : Int) + 1 := wone6 n hcb
              have HCT := hide hct
              have HG6 := hide hg6
              have HKL := hide hkl
              clear hk hg6 hkl hy hct hcb hn
              by_cases hyx : y = x
              · have hyb : (y == x) = true := by simpa using hyx
                have HC2 : Hid ((out.take (k + 1)).count x = n + 1) := by show _ = _; rw [HCT.out, if_pos hyx]
                clear hyx
                go_wp2_with fail
                go_quiet (fail)
                go_wp2_with fail
                go_roundw
                case rel => (try rw [hwk]); (try rw [hwn]); exact ⟨k + 1, by rw [HC2.out]; simp, by simp, HKL.out, HG6.out.trans (g_drewN _ _)⟩
                case measure => (try rw [hwk]); simp only [RowKit.intOf]; exact ms5 HKL.out
              · have hyb : (y == x) = false := beq_eq_false_iff_ne.2 hyx
                have HC2 : Hid ((out.take (k + 1)).count x = n) := by show _ = _; rw [HCT.out, if_neg hyx]; rfl
                clear hyx
                go_wp2_with fail
                go_quiet (fail)
                go_wp2_with fail
                go_roundw
                case rel => (try rw [hwk]); exact ⟨k + 1, by rw [HC2.out], by simp, HKL.out, HG6.out.trans (g_drewN _ _)⟩
                case measure => (try rw [hwk]); simp only [RowKit.intOf]; exact ms5 HKL.out
            · have hkI : ¬ ((k : Int) < out.length) := fun h => hkl (Int.ofNat_lt.1 h)
              obtain rfl : k = out.length := Nat.le_antisymm hk (Nat.le_of_not_lt hkl)
              rw [List.take_length, HONE.out]
              have HG6 := hide hg6
              clear hk hg6 hkl
              go_wp2_with fail
              go_roundw
              case rel => (try rw [hwi]); exact ⟨i + 1, by simp, HIL.out, HG6.out⟩
              case measure => (try rw [hwi]); simp only [RowKit.intOf]; exact ms5 HIL.out
        · have hiI : ¬ ((i : Int) < nodes.length) := fun h => hil (Int.ofNat_lt.1 h)
          have HG := hide hg
          clear hi hg hil
          go_wp2_with fail
          go_loopw [13] (fun iv wr => ∃ i : Nat, iv = I i ∧ i ≤ out.length ∧ G w5 wr) (fun iv _ => out.length - (RowKit.intOf iv).toNat)
          case atStart => exact ⟨0, rfl, Nat.zero_le _, HG.out⟩
          case round =>
            obtain ⟨i, rfl, hi, hg⟩ := hrel
            by_cases hil : i < out.length
            · have hiI : (i : Int) < out.length := Int.ofNat_lt.2 hil
              obtain ⟨y, hy⟩ : ∃ y, out[i]? = some y := ⟨_, List.getElem?_eq_getElem hil⟩
              have hwi : wrap64 ((i : Int) + 1) = (i : Int) + 1 := wone6 i (Nat.le_trans (Nat.le_of_lt hil) HOL.out)
              have hym : y ∈ nodes := (HMEM.out y).1 (List.mem_of_getElem? hy)
              obtain ⟨g, rfl, -⟩ := HCO.out wr hg i y hy
              have HYM := hide hym
              have HY := hide hy
              have HIL := hide hil
              have HG := hide hg
              clear hi hg hil hy hym
              go_wp2_with fail
              go_loopw [14, 15] (fun bv kv w6 => ∃ k : Nat, kv = I k ∧ bv = .bool (decide (y ∈ nodes.take k)) ∧ k ≤ nodes.length ∧ G w5 w6) (fun _ kv _ => nodes.length - (RowKit.intOf kv).toNat)
              case atStart => exact ⟨0, rfl, by simp, Nat.zero_le _, HG.out⟩
              case round =>
                obtain ⟨k, rfl, rfl, hk, hg6⟩ := hrel
                by_cases hkl : k < nodes.length
                · have hkI : (k : Int) < nodes.length := Int.ofNat_lt.2 hkl
                  obtain ⟨x, hx⟩ : ∃ x, nodes[k]? = some x := ⟨_, List.getElem?_eq_getElem hkl⟩
                  have hwk : wrap64 ((k : Int) + 1) = (k : Int) + 1 := wone6 k (Nat.le_trans (Nat.le_of_lt hkl) HNL.out)
                  obtain ⟨lb, lo, rfl, cx⟩ := HCN.out wr hg6 k x hx
                  obtain ⟨g', eg, cy⟩ := HCO.out wr hg6 i y HY.out
                  have : g = g' := by simp at eg; exact eg
                  subst this
                  have HNX : Hid (decide (y ∈ nodes.take (k + 1)) = (decide (y ∈ nodes.take k) || (x == y))) := by
                    show _ = _
                    rw [List.take_add_one, hx]
                    simp [eq_comm, Bool.beq_eq_decide_eq]
                  have HG6 := hide hg6
                  have HKL := hide hkl
                  obtain ⟨bb, hbb⟩ : ∃ bb, bb = decide (y ∈ nodes.take k) := ⟨_, rfl⟩
                  rw [← hbb] at HNX ⊢
                  clear hbb hg6 hkl hx hk eg
                  cases bb with
                  | true =>
                    have HN2 := HNX.out
                    rw [Bool.true_or] at HN2
                    have HN3 := hide HN2
                    clear HN2 HNX
                    go_wp2_with fail
                    go_quiet (fail)
                    go_wp2_with fail
                    go_roundw
                    case rel => (try rw [hwk]); exact ⟨k + 1, by simp, by rw [HN3.out], HKL.out, HG6.out.trans (g_drewN _ _)⟩
                    case measure => (try rw [hwk]); simp only [RowKit.intOf]; exact ms5 HKL.out
                  | false =>
                    have HN2 := HNX.out
                    rw [Bool.false_or] at HN2
                    have HN3 := hide HN2
                    clear HN2 HNX
                    obtain ⟨q, hq⟩ : ∃ q, q = (x == y) := ⟨_, rfl⟩
                    have hq2 := hq.symm
                    rw [← hq] at HN3
                    clear hq
                    cases q with
                    | true =>
                      go_wp2_with fail
                      go_quiet (fail)
                      go_wp2_with fail
                      go_roundw
                      case rel => (try rw [hwk]); exact ⟨k + 1, by simp, by rw [HN3.out], HKL.out, HG6.out.trans (g_drewN _ _)⟩
                      case measure => (try rw [hwk]); simp only [RowKit.intOf]; exact ms5 HKL.out
                    | false =>
                      go_wp2_with fail
                      go_quiet (fail)
                      go_wp2_with fail
                      go_roundw
                      case rel => (try rw [hwk]); exact ⟨k + 1, by simp, by rw [HN3.out], HKL.out, HG6.out.trans (g_drewN _ _)⟩
                      case measure => (try rw [hwk]); simp only [RowKit.intOf]; exact ms5 HKL.out
                · have hkI : ¬ ((k : Int) < nodes.length) := fun h => hkl (Int.ofNat_lt.1 h)
                  obtain rfl : k = nodes.length := Nat.le_antisymm hk (Nat.le_of_not_lt hkl)
                  rw [List.take_length, decide_eq_true HYM.out]
                  obtain ⟨M, hM⟩ : ∃ M, M = (netOf rs false y).1 := ⟨_, rfl⟩
                  have HML : Hid (M.length ≤ 1048576) := by rw [hM]; exact HAL.out y
                  have HOF := hide (of_any w1 wr.drew (.slice ma rs.length mc) rs false y HNR.out ((HG5.out.trans hg6).trans (G.drew (G.refl _))) (HI.out.ok y HYM.out) HRL.out)
                  have HF2 : Hid (∀ (a : Nat) x, a ≤ i → out[a]? = some x → ∀ r ∈ M, r.2.1 ≠ x) := fun a x ha hx r hr => by
                    rw [hM] at hr
                    exact HFW.out a i x y ha hx HY.out r hr
                  rw [← hM] at HOF
                  have HALL : Hid (∀ V, G wr V → (fun V => (∀ o, V.cell? ⟨bn, o, none⟩ = ([.slice ma rs.length mc, .bool false] : List Value)[o]?) ∧ V.cell? ⟨g, i, none⟩ = some (I y)) V) := fun V gV => ⟨(HB5.out.G (hg6.trans gV)).cell, by
                    obtain ⟨g', eg, cy⟩ := HCO.out V (hg6.trans gV) i y HY.out
                    have : g = g' := by simp at eg; exact eg
                    subst this
                    exact cy⟩
                  have HGW3 := hide (HG5.out.trans hg6)
                  have HG6 := hide hg6
                  obtain ⟨code, hcode⟩ : ∃ code, code = (netOf rs false y).2 := ⟨_, rfl⟩
                  rw [← hcode] at HOF
                  clear hk hg6 hkl hM hcode
                  go_wp2_with fail
                  refine wp_region_noPanic ?_
                  refine wp_region_held_drew (S := (fun V => (∀ o, V.cell? ⟨bn, o, none⟩ = ([.slice ma rs.length mc, .bool false] : List Value)[o]?) ∧ V.cell? ⟨g, i, none⟩ = some (I y))) (by kernel_rfl) (HALL.out _ (G.drew (G.refl _))) (fun hHeld => ?_)
                  refine wpAnyH_take (i := 0) (v := ?_) rfl (by kernel_rfl) (by kernel_rfl) (by kernel_rfl) (fun _ _ _ h => h) (Or.inl ⟨by rfl, ?_⟩) hHeld ?_
                  rotate_left 1
                  · (intro w hSw; obtain ⟨q1, q2⟩ := hSw; go_simp; try with_reducible rfl)
                  try simp only [Act.put, List.getElem_toArray, List.getElem_cons_zero, List.setIfInBounds_toArray, List.set_cons_zero, List.set_cons_succ]
                  refine wpAnyH_take (i := 1) (v := ?_) rfl (by kernel_rfl) (by kernel_rfl) (by kernel_rfl) (fun _ _ _ h => h) (Or.inl ⟨by rfl, ?_⟩) hHeld ?_
                  rotate_left 1
                  · (intro w hSw; obtain ⟨q1, q2⟩ := hSw; go_simp; try with_reducible rfl)
                  try simp only [Act.put, List.getElem_toArray, List.getElem_cons_zero, List.getElem_cons_succ, List.setIfInBounds_toArray, List.set_cons_zero, List.set_cons_succ]
                  refine wpAnyH_take (i := 2) (v := ?_) rfl (by kernel_rfl) (by kernel_rfl) (by kernel_rfl) (fun _ _ _ h => h) (Or.inl ⟨by rfl, ?_⟩) hHeld ?_
                  rotate_left 1
                  · (intro w hSw; obtain ⟨q1, q2⟩ := hSw; go_simp; try with_reducible rfl)
                  try simp only [Act.put, List.getElem_toArray, List.getElem_cons_zero, List.getElem_cons_succ, List.setIfInBounds_toArray, List.set_cons_zero, List.set_cons_succ]
                  refine wpAnyH_take (i := 3) (v := ?_) rfl (by kernel_rfl) (by kernel_rfl) (by kernel_rfl) (fun _ _ _ h => h) (Or.inl ⟨by rfl, ?_⟩) hHeld ?_
                  rotate_left 1
                  · (intro w hSw; obtain ⟨q1, q2⟩ := hSw; go_simp; try with_reducible rfl)
                  try simp only [Act.put, List.getElem_toArray, List.getElem_cons_zero, List.getElem_cons_succ, List.setIfInBounds_toArray, List.set_cons_zero, List.set_cons_succ]
                  refine wpAnyH_take (i := 4) (v := ?_) rfl (by kernel_rfl) (by kernel_rfl) (by kernel_rfl) (fun _ _ _ h => h) (Or.inl ⟨by rfl, ?_⟩) hHeld ?_
                  rotate_left 1
                  · (intro w hSw; obtain ⟨q1, q2⟩ := hSw; go_simp; try with_reducible rfl)
                  try simp only [Act.put, List.getElem_toArray, List.getElem_cons_zero, List.getElem_cons_succ, List.setIfInBounds_toArray, List.set_cons_zero, List.set_cons_succ]
                  refine wpAnyH_ready (rs := [5]) (by kernel_rfl) (by simp) (AllReadyH.cons rfl (fun K hK => ?_) AllReadyH.nil)
                  clear hHeld
                  go_simp
                  refine HOF.out.mono ?_
                  rintro e w7 ⟨lv, rfl, hax, hg7⟩
                  have HG7 := hide (G.trans (G.drew (G.refl wr)) hg7)
                  have har := hax.arcs ((HGW3.out.trans (G.drew (G.refl wr))).trans hg7)
                  obtain ⟨la5, lc5, rfl⟩ : ∃ la lc, lv = .slice la M.length lc := by obtain ⟨q1, q2, q3, -⟩ := har.at_; exact ⟨q1, q2, q3⟩
                  have HA5 := hide har
                  clear hax hg7 har
                  go_wp2_with fail
                  refine hK.out _ _ (HALL.out _ HG7.out) (fun hHeld => ?_)
                  clear hK K
                  try simp only [Act.put, List.getElem_toArray, List.getElem_cons_zero, List.getElem_cons_succ, List.setIfInBounds_toArray, List.set_cons_zero, List.set_cons_succ]
                  refine wpAnyH_take (i := 6) (v := ?_) rfl (by kernel_rfl) (by kernel_rfl) (by kernel_rfl) (fun _ _ _ h => h) (Or.inl ⟨by rfl, ?_⟩) hHeld ?_
                  rotate_left 1
                  · (intro w hSw; (try dsimp only at hSw); go_simp; try with_reducible rfl)
                  try simp only [Act.put, List.getElem_toArray, List.getElem_cons_zero, List.getElem_cons_succ, List.setIfInBounds_toArray, List.set_cons_zero, List.set_cons_succ]
                  refine wpAnyH_take (i := 7) (v := ?_) rfl (by kernel_rfl) (by kernel_rfl) (by kernel_rfl) (fun _ _ _ h => h) (Or.inl ⟨by rfl, ?_⟩) hHeld ?_
                  rotate_left 1
                  · (intro w hSw; (try dsimp only at hSw); go_simp; try with_reducible rfl)
                  try simp only [Act.put, List.getElem_toArray, List.getElem_cons_zero, List.getElem_cons_succ, List.setIfInBounds_toArray, List.set_cons_zero, List.set_cons_succ]
                  refine wpAnyH_take (i := 8) (v := ?_) rfl (by kernel_rfl) (by kernel_rfl) (by kernel_rfl) (fun _ _ _ h => h) (Or.inl ⟨by rfl, ?_⟩) hHeld ?_
                  rotate_left 1
                  · (intro w hSw; (try dsimp only at hSw); go_simp; try with_reducible rfl)
                  try simp only [Act.put, List.getElem_toArray, List.getElem_cons_zero, List.getElem_cons_succ, List.setIfInBounds_toArray, List.set_cons_zero, List.set_cons_succ]
                  refine wpAnyH_take (i := 9) (v := ?_) rfl (by kernel_rfl) (by kernel_rfl) (by kernel_rfl) (fun _ _ _ h => h) (Or.inl ⟨by rfl, ?_⟩) hHeld ?_
                  rotate_left 1
                  · (intro w hSw; (try dsimp only at hSw); go_simp; try with_reducible rfl)
                  try simp only [Act.put, List.getElem_toArray, List.getElem_cons_zero, List.getElem_cons_succ, List.setIfInBounds_toArray, List.set_cons_zero, List.set_cons_succ]
                  refine wpAnyH_take (i := 10) (v := ?_) rfl (by kernel_rfl) (by kernel_rfl) (by kernel_rfl) (fun _ _ _ h => h) (Or.inl ⟨by rfl, ?_⟩) hHeld ?_
                  rotate_left 1
                  · (intro w hSw; (try dsimp only at hSw); go_simp; try with_reducible rfl)
                  try simp only [Act.put, List.getElem_toArray, List.getElem_cons_zero, List.getElem_cons_succ, List.setIfInBounds_toArray, List.set_cons_zero, List.set_cons_succ]
                  refine wpAnyH_done (by kernel_rfl) ?_ _
                  refine NoPanic.normal ?_
                  clear HOF HALL
                  have HG8 := hide (HG6.out.trans HG7.out)
                  clear HG6 HG7 HGW3
                  go_wp2_with fail
                  obtain ⟨wj, rfl⟩ : ∃ wj, wj = w7 := ⟨_, rfl⟩
                  go_loopw [18] (fun jv w8 => ∃ j : Nat, jv = I j ∧ j ≤ M.length ∧ G wj w8) (fun jv _ => M.length - (RowKit.intOf jv).toNat)
                  case atStart => exact ⟨0, rfl, Nat.zero_le _, by first | exact G.refl _ | exact g_drewN _ _⟩
                  case round =>
                    obtain ⟨j, rfl, hj, hg8⟩ := hrel
                    by_cases hjl : j < M.length
                    · have hjI : (j : Int) < M.length := Int.ofNat_lt.2 hjl
                      obtain ⟨⟨ye, yt, yw⟩, hz⟩ : ∃ z, M[j]? = some z := ⟨_, List.getElem?_eq_getElem hjl⟩
                      have hwj : wrap64 ((j : Int) + 1) = (j : Int) + 1 := wone6 j (Nat.le_trans (Nat.le_of_lt hjl) HML.out)
                      have HZ := hide hz
                      have HJL := hide hjl
                      have HG9 := hide hg8
                      have HNE : Hid (∀ (a : Nat) x, a ≤ i → out[a]? = some x → yt ≠ x) := fun a x ha hx => HF2.out a x ha hx _ (List.mem_of_getElem? hz)
                      clear hj hg8 hjl hz
                      go_wp2_with fail
                      go_loopw [19] (fun kv w9 => ∃ k : Nat, kv = I k ∧ k ≤ i + 1 ∧ G wj w9) (fun kv _ => i + 1 - (RowKit.intOf kv).toNat)
                      case atStart => exact ⟨0, rfl, Nat.zero_le _, HG9.out⟩
                      case round =>
                        obtain ⟨k, rfl, hk, hg9⟩ := hrel
                        by_cases hkl : k ≤ i
                        · have hkI : (k : Int) ≤ i := Int.ofNat_le.2 hkl
                          have hkid : decide ((k : Int) ≤ i) = true := decide_eq_true hkI
                          have hko : k < out.length := Nat.lt_of_le_of_lt hkl HIL.out
                          have hkoI : (k : Int) < out.length := Int.ofNat_lt.2 hko
                          have hjI2 : (j : Int) < M.length := Int.ofNat_lt.2 HJL.out
                          obtain ⟨x, hx⟩ : ∃ x, out[k]? = some x := ⟨_, List.getElem?_eq_getElem hko⟩
                          have hwk : wrap64 ((k : Int) + 1) = (k : Int) + 1 := wone6 k (Nat.le_trans (Nat.le_of_lt hko) HOL.out)
                          obtain ⟨-, ab, aoff, rfl, -, y2, -, -⟩ := (HA5.out.G hg9).get HZ.out
                          simp only at y2
                          obtain ⟨g', eg, cy⟩ := HCO.out wr (HG8.out.trans hg9) k x hx
                          have : g = g' := by simp at eg; exact eg
                          subst this
                          have hyb : (yt == x) = false := beq_eq_false_iff_ne.2 (HNE.out k x hkl hx)
                          have HG10 := hide hg9
                          have HKL : Hid (k < i + 1) := Nat.lt_succ_of_le hkl
                          clear hk hg9 hkl hko hx eg
                          go_wp2_with fail
                          go_quiet (fail)
                          go_wp2_with fail
                          go_roundw
                          case rel => (try rw [hwk]); exact ⟨k + 1, by simp, HKL.out, HG10.out.trans (g_drewN _ _)⟩
                          case measure => (try rw [hwk]); simp only [RowKit.intOf]; exact ms5 HKL.out
                        · have hkI : ¬ ((k : Int) ≤ i) := fun h => hkl (Int.ofNat_le.1 h)
                          have hkid : decide ((k : Int) ≤ i) = false := decide_eq_false hkI
                          have HG10 := hide hg9
                          clear hk hg9 hkl
                          go_wp2_with fail
                          go_roundw
                          case rel => (try rw [hwj]); exact ⟨j + 1, by simp, HJL.out, HG10.out⟩
                          case measure => (try rw [hwj]); simp only [RowKit.intOf]; exact ms5 HJL.out
                    · have hjI : ¬ ((j : Int) < M.length) := fun h => hjl (Int.ofNat_lt.1 h)
                      have HG9 := hide (HG8.out.trans hg8)
                      clear hj hg8 hjl
                      go_wp2_with fail
                      go_roundw
                      case rel => (try rw [hwi]); exact ⟨i + 1, by simp, HIL.out, HG9.out⟩
                      case measure => (try rw [hwi]); simp only [RowKit.intOf]; exact ms5 HIL.out
            · have hiI : ¬ ((i : Int) < out.length) := fun h => hil (Int.ofNat_lt.1 h)
              have HG := hide hg
              clear hi hg hil
              go_wp2_with fail
              go_ret
              exact ⟨rfl, HG1.out.trans (HG5.out.trans HG.out)⟩
end Go.Proofs.YtemkilffagjmcaaDoor
