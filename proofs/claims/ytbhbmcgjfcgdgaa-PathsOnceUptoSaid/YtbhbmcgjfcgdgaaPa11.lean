/- PathsOnce: the walk. -/
import Derived.Test.YtbhbmcgjfcgdgaaPa10
namespace Go.Proofs.Ytbhbmcgjfcgdgaa
open Go.RowKit

theorem smallA {n0 n i L : Nat} (h : n0 < n) (h2 : n ≤ i) (h3 : i < L) (h4 : L ≤ 1048576) : ([] : List Nat).length + n0 ≤ 1073741824 := by simp; omega
theorem smallB {n0 n i L : Nat} (h : n0 < n) (h2 : n ≤ i) (h3 : i < L) (h4 : L ≤ 1048576) : min n0 n + (n - (n0 + 1)) ≤ 1073741824 := by omega
theorem smallC {n0 n c : Nat} (h : n0 < n) (h2 : n ≤ c) : ¬ ((c : Int) < n0) := by omega
theorem smallD {n0 n : Nat} (h : n0 < n) : ¬ ((n : Int) < n0 + 1) := by omega
theorem smallE {n0 n i L : Nat} (h : n0 < n) (h2 : n ≤ i) (h3 : i < L) (h4 : L ≤ 1048576) : wrap64 ((n0 : Int) + 1) = (n0 : Int) + 1 := by unfold wrap64; omega
theorem smallH (i : Nat) : (i : Int) ≤ ((i + 1 : Nat) : Int) := by omega
theorem smallI {n0 n c j : Nat} (h : c = n0 + 1) (h2 : n ≤ c) : ¬ (n0 + 1 + j < n) := by omega
theorem smallA2 {n0 n i : Nat} (h : n0 < n) (h2 : n ≤ i) (h4 : i ≤ 1048576) : ([] : List Nat).length + n0 ≤ 1073741824 := by simp; omega
theorem smallB2 {n0 n i : Nat} (h : n0 < n) (h2 : n ≤ i) (h4 : i ≤ 1048576) : min n0 n + (n - (n0 + 1)) ≤ 1073741824 := by omega
theorem smallE2 {n0 n i : Nat} (h : n0 < n) (h2 : n ≤ i) (h4 : i ≤ 1048576) : wrap64 ((n0 : Int) + 1) = (n0 : Int) + 1 := by unfold wrap64; omega
theorem smallF (n0 : Nat) : ¬ ((n0 : Int) < 0) := by omega
theorem smallG {n0 n : Nat} (h : n0 < n) : (0 : Int) < n := by omega
theorem meas {n m : Nat} (h : m < n) : n - ((m : Int) + 1).toNat < n - (m : Int).toNat := by omega
theorem OS.pick {W wr : World} {h : Nat} {f v : Value} {lt : Int × Int → Int × Int → Bool} {x : It} {l : List It} {t : Int} {vin : Value} {ks : List Nat} {i : Nat} {key : Nat → Int} (s : OS W wr h f v lt (x :: l) t vin ks i key) :
    ∃ k0 n0 : Nat, ks[n0]? = some k0 ∧ x.1 = (key k0, (k0 : Int)) ∧ (l.map (·.1)).Perm ((ks.erase k0).map fun (k : Nat) => (key k, (k : Int))) := by
  have hx : x.1 ∈ ks.map fun (k : Nat) => (key k, (k : Int)) := s.pm.subset (by simp)
  obtain ⟨k0, hk0, e⟩ := List.mem_map.1 hx
  obtain ⟨n0, hn0⟩ := List.mem_iff_getElem?.1 hk0
  refine ⟨k0, n0, hn0, e.symm, ?_⟩
  have hp2 : (ks.map fun (k : Nat) => (key k, (k : Int))).Perm ((key k0, (k0 : Int)) :: (ks.erase k0).map fun (k : Nat) => (key k, (k : Int))) := by
    have := (List.perm_cons_erase hk0).map fun (k : Nat) => (key k, (k : Int))
    simpa using this
  have h1 := s.pm.trans hp2
  rw [List.map_cons, ← e] at h1
  exact List.Perm.cons_inv h1
/-- What a Pop leaves of it, with the tags' list as it was. -/
theorem OS.popped {W wr w' : World} {h : Nat} {f v v' : Value} {lt : Int × Int → Int × Int → Bool} {x : It} {l l' : List It} {t : Int} {vin : Value} {ks : List Nat} {i : Nat} {key : Nat → Int} (s : OS W wr h f v lt (x :: l) t vin ks i key) (hp : HP w' h f v' l' t) (hhi : Hp.WO lt → Hp.HI (Hp.ah lt) (x :: l) → Hp.HI (Hp.ah lt) l') (hch : Chg (hpB h v) wr w') (hob : v'.ownBlock = v.ownBlock) : Own W w' h f v' lt l' t ∧ IRow w' W.heap.size vin ks :=
  ⟨s.o.pop hp hhi hch hob, s.r.chg hch (fun _ hb => s.r.hp s.o.hp hb)⟩
set_option maxRecDepth 100000 in
set_option maxHeartbeats 4000000 in
theorem once_any (va : Option Addr) (La ca : Nat) (Xa : Nat → Bool) (hLa : La ≤ 1048576) (vs : Option Addr) (L cs : Nat) (X : Nat → Bool × Bool × Int) (hL : L ≤ 1048576) (W : World)
    (hva : La = 0 ∨ ∃ b off, va = some ⟨b, off, none⟩ ∧ Bools W b off La Xa) (hvs : L = 0 ∨ ∃ b off, vs = some ⟨b, off, none⟩ ∧ Steps W b off L X) : Calls Try.prog 4 #[.slice va La ca, .slice vs L cs] W fun e W' => e = .returned (.bool true) ∧ G W W' := by
  have HNH := hide (nh_o W.heap.size (W.alloc (.cells #[.slice va La ca] 29)))
  have HBX := hide (Blk.new W [.slice va La ca] 29)
  have HGW := hide ((G.refl W).alloc (.cells #[.slice va La ca] 29))
  have HAH := hide (ah_o (W.alloc (.cells #[.slice va La ca] 29)) W.heap.size (ltO La Xa) (lt_o W.heap.size va La ca Xa hLa (W.alloc (.cells #[.slice va La ca] 29)) HBX.out (hva.imp id (fun ⟨b, off, e, q⟩ => ⟨b, off, e, q.G HGW.out⟩))))
  have HVS : Hid (L = 0 ∨ ∃ b off, vs = some ⟨b, off, none⟩ ∧ Steps (W.alloc (.cells #[.slice va La ca] 29)) b off L X) := hvs.imp id (fun ⟨b, off, e, q⟩ => ⟨b, off, e, q.G HGW.out⟩)
  clear hva hvs HBX
  go_enter Try.func4, Try.ntmps4
  go_wp2_with fail
  generalize hw0 : (W.alloc (.cells #[.slice va La ca] 29)) = w0 at HNH HGW HAH HVS ⊢
  generalize hFV : ((.func (.func 11) #[] #[ptr W.heap.size]) : Value) = FVV at HNH HAH
  generalize hLT : (ltO La Xa) = LTT at HAH
  have HFE := hide hFV
  clear hFV hw0 hLT
  refine HNH.out.mono ?_
  rintro e w1 ⟨h, rfl, hp1, hg1, hh⟩
  have HO1 : Hid (OS w0 w1 h FVV (.slice none 0 0) LTT [] 0 (.slice none 0 0) [] 0 (fun k => (X k).2.2)) := ⟨⟨hp1, fun _ j _ hj => by simp at hj, hg1, fun b e => by simp [Value.ownBlock] at e, hh⟩, IRow.nil _ _, List.nodup_nil, fun k hk => by simp at hk, List.Perm.refl _, Int.le_refl _, Int.le_refl _⟩
  clear hp1 hg1 hh HNH
  go_wp2_with fail
  go_loopw [7, 8] (fun inv iv wr => ∃ (i : Nat) (v : Value) (l : List It) (t : Int) (ks : List Nat), iv = I i ∧ i ≤ L ∧ OS w0 wr h FVV v LTT l t inv ks i (fun k => (X k).2.2)) (fun _ iv _ => L - (RowKit.intOf iv).toNat)
  case atStart => exact ⟨0, _, [], 0, [], rfl, Nat.zero_le _, HO1.out⟩
  case round =>
    obtain ⟨i, v, l, t, ks, rfl, hi, hs⟩ := hrel
    by_cases hlt : i < L
    · obtain ⟨b, off, rfl, hN⟩ : ∃ b off, vs = some ⟨b, off, none⟩ ∧ Steps w0 b off L X := HVS.out.resolve_left (by omega)
      obtain ⟨c1, c2, c3, c4⟩ := (hN.G hs.o.g) i hlt
      have hiI : (i : Int) < L := by omega
      have hw : wrap64 ((i : Int) + 1) = (i : Int) + 1 := by unfold wrap64; omega
      have HS := hide hs
      have HNN := hide hN
      clear hs hN
      cases hpop : (X i).1 with
      | false =>
        rw [hpop] at c1
        have HPU := hide (push_any w0 FVV LTT HAH.out h v l t (X i).2.2 i wr HS.out.o.g HS.out.o.hp (by have := HS.out.len; have := HS.out.few; omega) (by have := HS.out.t0; omega) (by have := HS.out.t1; omega) HS.out.o.h HS.out.o.o)
        go_wp2_with fail
        with_reducible refine HPU.out.mono ?_
        rintro e w2 ⟨rfl, v', l', hp', hperm, hhi, hch, hown⟩
        have HO2 : Hid (Own w0 w2 h FVV v' LTT l' (t + 1)) := ⟨hp', fun o => hhi o (HS.out.o.hi o), g_of HS.out.o.g HS.out.o.h HS.out.o.o hch, fun b e => by
          rcases hown with q | ⟨b', q, q2⟩
          · rw [q] at e; exact HS.out.o.o b e
          · rw [q] at e
            have e2 : b' = b := Option.some.inj e
            have := HS.out.o.g.size
            omega, HS.out.o.h⟩
        have HR2 := hide (HS.out.r.chg hch (fun b hb => HS.out.r.hp HS.out.o.hp hb))
        have HA2 := hide ((G.refl w2).alloc (.cells #[I (i : Int)] 3))
        obtain ⟨v7, w7, hrun, hr7, hch7, hob7⟩ := app_ints (w2.alloc (.cells #[I (i : Int)] 3)) w0.heap.size u7 ks (HR2.out.G HA2.out) ⟨w2.heap.size, 0, none⟩ 1 1 [i] rfl (fun j k hj => by
          match j, hj with
          | 0, hj => simp at hj; subst hj; exact cell_new w2 [I (i : Int)] 3 0 _ rfl
          | j + 1, hj => simp at hj) (by have := HS.out.few; omega) (Nat.le_trans HO2.out.g.size HA2.out.size)
        have HRUN := hide hrun
        have HSF : Hid (OS w0 w7 h FVV v' LTT l' (t + 1) v7 (ks ++ [i]) (i + 1) (fun k => (X k).2.2)) := ⟨OS.row (HO2.out.G HA2.out) (HR2.out.G HA2.out) hch7, hr7, by
          rw [List.nodup_append]
          exact ⟨HS.out.nd, by simp, fun a ha b hb => by simp at hb; subst hb; have := HS.out.lt a ha; omega⟩, fun k hk => by
          rcases List.mem_append.1 hk with q | q
          · have := HS.out.lt k q; omega
          · simp at q; omega, by
          rw [List.map_append]
          refine ((hperm.map (·.1)).trans ?_).trans (List.perm_append_singleton _ _).symm
          simpa using HS.out.pm.cons ((X i).2.2, (i : Int)), by have := HS.out.t0; omega, by have := HS.out.t1; omega⟩
        obtain ⟨va7, c7, e7⟩ := HSF.out.r.slice
        have e8 : v7 = .slice va7 (ks.length + 1) c7 := by rw [e7]; simp
        clear e7
        subst e8
        clear hp' hperm hhi hch hown hrun hr7 hch7 hob7 HPU HO2 HR2 HA2 HS
        go_wp2_with (first | (at_builtin; refine wpList_append_run rfl _ _ 35 rfl u7 (.slice (some ⟨w2.heap.size, 0, none⟩) 1 1) rfl rfl HRUN.out ?_) | fail)
        refine (len_any h FVV _ _ _ _ HSF.out.o.hp).mono ?_
        rintro e w9 ⟨rfl, hg9⟩
        have HREL := hide (HSF.out.G hg9)
        rw [HSF.out.len]
        clear hg9 HSF
        go_wp2_with fail
        go_roundw
        case rel => exact ⟨i + 1, _, _, _, _, by simp, hlt, HREL.out⟩
        case measure => simp only [RowKit.intOf]; omega
      | true =>
        rw [hpop] at c1
        obtain ⟨ain, cin, rfl⟩ := HS.out.r.slice
        match ks, l, HS with
        | [], l, HS =>
          obtain rfl : l = [] := List.eq_nil_of_length_eq_zero (by simpa using HS.out.len)
          have HPO := hide (pop_none h FVV v t wr HS.out.o.hp)
          go_wp2_with fail
          with_reducible refine HPO.out.mono ?_
          rintro e w5 ⟨rfl, hg5⟩
          have HS5 := hide (HS.out.G hg5)
          clear hg5 HPO HS c1 c2 c3 c4
          go_wp2_with fail
          have HG6 := hide ((G.refl w5).alloc (.cells #[I 0, I 0] 26))
          generalize w5.alloc (.cells #[I 0, I 0] 26) = w6 at HG6 ⊢
          go_loopw [11, 12] (fun atv kv wr => atv = I (-1) ∧ kv = I 0 ∧ wr = w6) (fun _ _ _ => 0)
          case atStart => exact ⟨rfl, rfl, rfl⟩
          case round =>
            obtain ⟨rfl, rfl, rfl⟩ := hrel
            go_wp2_with fail
            have HSF : Hid (OS w0 wr h FVV v LTT [] t (.slice ain 0 cin) [] (i + 1) (fun k => (X k).2.2)) := by
              have q := HS5.out.G HG6.out
              exact ⟨q.o, q.r, q.nd, fun k hk => by simp at hk, q.pm, q.t0, by have := q.t1; omega⟩
            clear HS5 HG6
            refine (len_any h FVV _ _ _ _ HSF.out.o.hp).mono ?_
            rintro e w9 ⟨rfl, hg9⟩
            have HREL := hide (HSF.out.G hg9)
            rw [HSF.out.len]
            clear hg9 HSF
            go_wp2_with fail
            go_roundw
            case rel => exact ⟨i + 1, _, _, _, _, by simp, hlt, HREL.out⟩
            case measure => simp only [RowKit.intOf]; omega
        | k1 :: ks1, [], HS => exact absurd HS.out.len (by simp)
        | k1 :: ks1, x :: l1, HS =>
          generalize k1 :: ks1 = ks at HS
          obtain ⟨k0, n0, hn0, hx, hpm⟩ := HS.out.pick
          obtain ⟨⟨xk, xt⟩, xu⟩ := x
          simp only [Prod.mk.injEq] at hx
          obtain ⟨rfl, rfl⟩ := hx
          have hk0i : k0 < i := HS.out.lt k0 (List.mem_of_getElem? hn0)
          have hnl : n0 < ks.length := (List.getElem?_eq_some_iff.1 hn0).1
          have hfew := HS.out.few
          have hlen := HS.out.len
          have HPO := hide (pop_some w0 FVV LTT HAH.out h v (((X k0).2.2, (k0 : Int)), xu) l1 t wr HS.out.o.g HS.out.o.hp (by simp at hlen; omega) HS.out.o.h HS.out.o.o)
          obtain ⟨g, cap, rfl, rfl⟩ : ∃ g cap, ain = some ⟨g, 0, none⟩ ∧ cin = cap := by
            obtain ⟨g, cap, e⟩ := own_block HS.out.r (by omega)
            simp only [Value.slice.injEq] at e
            exact ⟨g, cap, e.1, e.2.2⟩
          go_wp2_with fail
          with_reducible refine HPO.out.mono ?_
          rintro e w5 ⟨rfl, v6, l6, hp6, hperm6, hhi6, hch6, hob6⟩
          obtain ⟨ho6, hr6⟩ := HS.out.popped hp6 hhi6 hch6 hob6
          have HO6 := hide ho6
          have HR6 := hide hr6
          have HPM := hide ((hperm6.map (·.1)).trans hpm)
          have HND := hide HS.out.nd
          have HLT := hide HS.out.lt
          have HT0 := hide HS.out.t0
          have HT1 := hide HS.out.t1
          clear hp6 hperm6 hhi6 hch6 hob6 ho6 hr6 hpm HS HPO c1 c2 c3 c4
          go_wp2_with fail
          obtain ⟨xb, hxb⟩ : ∃ xb, xb = w5.heap.size := ⟨_, rfl⟩
          have HX7 : Hid (Blk (w5.alloc (.cells #[I (X k0).2.2, I (k0 : Int)] 26)) xb 26 [I (X k0).2.2, I (k0 : Int)]) := by rw [hxb]; exact Blk.new w5 [I (X k0).2.2, I (k0 : Int)] 26
          have HG7 := hide ((G.refl w5).alloc (.cells #[I (X k0).2.2, I (k0 : Int)] 26))
          rw [← hxb]
          generalize w5.alloc (.cells #[I (X k0).2.2, I (k0 : Int)] 26) = w7 at HX7 HG7 ⊢
          have HO7 := hide (HO6.out.G HG7.out)
          have HR7 := hide (HR6.out.G HG7.out)
          clear hxb HO6 HR6 HG7
          go_loopw [11, 12] (fun atv kv wr => ∃ m : Nat, m ≤ ks.length ∧ kv = I m ∧ atv = I (if n0 < m then (n0 : Int) else -1) ∧ G w7 wr) (fun _ kv _ => ks.length - (RowKit.intOf kv).toNat)
          case atStart => exact ⟨0, Nat.zero_le _, rfl, by simp, G.refl _⟩
          case round =>
            obtain ⟨m, hm, rfl, rfl, hgm⟩ := hrel
            by_cases hml : m < ks.length
            · obtain ⟨km, hkm⟩ : ∃ km, ks[m]? = some km := ⟨_, List.getElem?_eq_getElem hml⟩
              have hci := (HR7.out.G hgm).at hkm
              have hxc := (HX7.out.G hgm).cell
              obtain ⟨d1, d2, d3, d4⟩ := (HNN.out.G (HO7.out.g.trans hgm)) k0 (by omega)
              have hmI : (m : Int) < ks.length := by omega
              have hkI : (k0 : Int) < L := by omega
              have hwm : wrap64 ((m : Int) + 1) = (m : Int) + 1 := by unfold wrap64; omega
              have HGM := hide hgm
              clear hgm
              by_cases hmn : m = n0
              · subst hmn
                obtain rfl : km = k0 := by rw [hn0] at hkm; exact (Option.some.inj hkm).symm
                rw [if_neg (Nat.lt_irrefl m)]
                clear hlen hfew hk0i hnl hm hkm hn0 d1 d2 d4 hpop hw hiI hlt hi hLa hL
                go_wp2_with fail
                go_quiet (fail)
                go_wp2_with fail
                go_roundw
                case rel => exact ⟨m + 1, hml, by first | (rw [hwm]; simp; done) | simp, by simp, HGM.out.trans (g_drewN _ _)⟩
                case measure => first | (rw [hwm]; exact meas hml) | exact meas hml
              · have hkk : km ≠ k0 := fun e => hmn ((List.getElem?_inj hml HND.out).1 (by rw [hkm, hn0, e]))
                have hne : ((km : Int) == (k0 : Int)) = false := beq_eq_false_iff_ne.2 (fun e => hkk (Int.ofNat.inj e))
                have hif : (if n0 < m + 1 then (n0 : Int) else -1) = (if n0 < m then (n0 : Int) else -1) := by
                  by_cases q : n0 < m
                  · rw [if_pos q, if_pos (Nat.lt_succ_of_lt q)]
                  · rw [if_neg q, if_neg (fun r => (Nat.lt_or_eq_of_le (Nat.le_of_lt_succ r)).elim q (fun e => hmn e.symm))]
                have HIF := hide hif
                clear hif
                generalize (if n0 < m then (n0 : Int) else -1) = av at HIF ⊢
                clear hlen hfew hk0i hnl hm hkm hn0 d1 d2 d3 d4 hpop hw hiI hlt hi hLa hL hmn hkk hkI
                go_wp2_with fail
                go_quiet (fail)
                go_wp2_with fail
                go_roundw
                case rel => exact ⟨m + 1, hml, by first | (rw [hwm]; simp; done) | simp, by rw [HIF.out], HGM.out.trans (g_drewN _ _)⟩
                case measure => first | (rw [hwm]; exact meas hml) | exact meas hml
            · obtain rfl : m = ks.length := by omega
              have hmI : ¬ ((ks.length : Int) < ks.length) := by omega
              rw [if_pos hnl]
              have HR := hide (HR7.out.G hgm)
              have HO := hide (HO7.out.G hgm)
              have hcp := HR.out.cap
              have hzw := HO.out.g.size
              obtain ⟨v8, w8, hrun8, hr8, hch8, hob8⟩ := app_ints wr w0.heap.size (.slice none 0 0) [] (IRow.nil _ _) ⟨g, 0, none⟩ n0 cin (ks.take n0) (by rw [List.length_take]; exact Nat.min_eq_left (Nat.le_of_lt hnl)) (fun j k hj => by
                rw [Addr.add_mid, Nat.zero_add]
                rw [List.getElem?_take] at hj
                split at hj
                · exact HR.out.at hj
                · cases hj) (smallA hnl hfew hlt hL) hzw
              have HR8 := hide (HR.out.chg hch8 (fun b _ q => by simp [Value.ownBlock] at q))
              have HO8 := hide (OS.row HO.out (IRow.nil wr w0.heap.size) hch8)
              by_cases hce : cin = n0 + 1
              · subst hce
                obtain ⟨v9, w9, hrun9, hr9, hch9, hob9⟩ := app_ints w8 w0.heap.size v8 (ks.take n0) hr8 ⟨g, 0, none⟩ (ks.length - (n0 + 1)) 0 (ks.drop (n0 + 1)) (by rw [List.length_drop]) (fun j k hj => by
                  rw [List.getElem?_drop] at hj
                  have q1 := (List.getElem?_eq_some_iff.1 hj).1
                  exact absurd q1 (smallI rfl hcp)) (by rw [List.length_take]; exact smallB hnl hfew hlt hL) HO8.out.g.size
                have HO9 := hide (OS.row HO8.out hr8 hch9)
                rw [← erase_at HND.out hn0] at hr9
                have HSF : Hid (OS w0 w9 h FVV v6 LTT l6 t v9 (ks.erase k0) (i + 1) (fun k => (X k).2.2)) := ⟨HO9.out, hr9, HND.out.erase _, fun k hk => Nat.lt_succ_of_lt (HLT.out k (List.mem_of_mem_erase hk)), HPM.out, HT0.out, Int.le_trans HT1.out (smallH i)⟩
                obtain ⟨a9, c9, e9⟩ := hr9.slice
                obtain ⟨a8, c8, e8⟩ := hr8.slice
                rw [List.nil_append, List.length_take, Nat.min_eq_left (Nat.le_of_lt hnl)] at e8
                generalize hn9 : (ks.erase k0).length = n9 at e9
                have HN9 := hide hn9
                clear hn9
                subst e9
                subst e8
                have HRUN8 := hide hrun8
                have HRUN9 := hide hrun9
                have f1 : ¬ (((n0 + 1 : Nat) : Int) < n0) := smallC hnl hcp
                have f2 : ¬ ((ks.length : Int) < n0 + 1) := smallD hnl
                have f3 : wrap64 ((n0 : Int) + 1) = (n0 : Int) + 1 := smallE hnl hfew hlt hL
                have f4 : ¬ ((n0 : Int) < 0) := smallF n0
                have f5 : (0 : Int) < ks.length := smallG hnl
                clear hlen hk0i hpop hgm hrun8 hr8 hch8 hob8 hrun9 hr9 hch9 hob9 HR HO HR8 HO8 HO9 HR7 HO7 HX7 HPM HLT HT0 HT1 hcp hzw
                go_wp2_with (first | (at_builtin; refine wpList_append_run rfl _ _ 35 rfl (.slice none 0 0) (.slice (some ⟨g, 0, none⟩) n0 (n0 + 1)) rfl rfl HRUN8.out ?_) | (at_builtin; refine wpList_append_run rfl _ _ 35 rfl (.slice a8 n0 c8) (.slice (some ⟨g, 0, none⟩) (ks.length - (n0 + 1)) 0) rfl rfl HRUN9.out ?_) | fail)
                refine (len_any h FVV _ _ _ _ HSF.out.o.hp).mono ?_
                rintro e w10 ⟨rfl, hg10⟩
                have HREL := hide (HSF.out.G hg10)
                rw [HSF.out.len, HN9.out]
                clear hg10 HSF HN9
                go_wp2_with fail
                go_roundw
                case rel => exact ⟨i + 1, _, _, _, _, by first | (rw [hw]; simp; done) | simp, hlt, HREL.out⟩
                case measure => first | (rw [hw]; exact meas hlt) | exact meas hlt
              · obtain ⟨v9, w9, hrun9, hr9, hch9, hob9⟩ := app_ints w8 w0.heap.size v8 (ks.take n0) hr8 ⟨g, n0 + 1, none⟩ (ks.length - (n0 + 1)) (cin - (n0 + 1)) (ks.drop (n0 + 1)) (by rw [List.length_drop]) (fun j k hj => by
                  rw [Addr.add_mid]
                  rw [List.getElem?_drop] at hj
                  exact HR8.out.at hj) (by rw [List.length_take]; exact smallB hnl hfew hlt hL) HO8.out.g.size
                have HO9 := hide (OS.row HO8.out hr8 hch9)
                rw [← erase_at HND.out hn0] at hr9
                have HSF : Hid (OS w0 w9 h FVV v6 LTT l6 t v9 (ks.erase k0) (i + 1) (fun k => (X k).2.2)) := ⟨HO9.out, hr9, HND.out.erase _, fun k hk => Nat.lt_succ_of_lt (HLT.out k (List.mem_of_mem_erase hk)), HPM.out, HT0.out, Int.le_trans HT1.out (smallH i)⟩
                obtain ⟨a9, c9, e9⟩ := hr9.slice
                obtain ⟨a8, c8, e8⟩ := hr8.slice
                rw [List.nil_append, List.length_take, Nat.min_eq_left (Nat.le_of_lt hnl)] at e8
                generalize hn9 : (ks.erase k0).length = n9 at e9
                have HN9 := hide hn9
                clear hn9
                subst e9
                subst e8
                have HRUN8 := hide hrun8
                have HRUN9 := hide hrun9
                have f1 : ¬ ((cin : Int) < n0) := smallC hnl hcp
                have f2 : ¬ ((ks.length : Int) < n0 + 1) := smallD hnl
                have f3 : wrap64 ((n0 : Int) + 1) = (n0 : Int) + 1 := smallE hnl hfew hlt hL
                have f4 : ¬ ((n0 : Int) < 0) := smallF n0
                have f5 : (0 : Int) < ks.length := smallG hnl
                clear hlen hk0i hpop hgm hrun8 hr8 hch8 hob8 hrun9 hr9 hch9 hob9 HR HO HR8 HO8 HO9 HR7 HO7 HX7 HPM HLT HT0 HT1 hcp hzw
                go_wp2_with (first | (at_builtin; refine wpList_append_run rfl _ _ 35 rfl (.slice none 0 0) (.slice (some ⟨g, 0, none⟩) n0 cin) rfl rfl HRUN8.out ?_) | (at_builtin; refine wpList_append_run rfl _ _ 35 rfl (.slice a8 n0 c8) (.slice (some ⟨g, n0 + 1, none⟩) (ks.length - (n0 + 1)) (cin - (n0 + 1))) rfl rfl HRUN9.out ?_) | fail)
                refine (len_any h FVV _ _ _ _ HSF.out.o.hp).mono ?_
                rintro e w10 ⟨rfl, hg10⟩
                have HREL := hide (HSF.out.G hg10)
                rw [HSF.out.len, HN9.out]
                clear hg10 HSF HN9
                go_wp2_with fail
                go_roundw
                case rel => exact ⟨i + 1, _, _, _, _, by first | (rw [hw]; simp; done) | simp, hlt, HREL.out⟩
                case measure => first | (rw [hw]; exact meas hlt) | exact meas hlt
    · obtain rfl : i = L := by omega
      have hiI : ¬ ((i : Int) < i) := by omega
      have HS := hide hs
      clear hs hi hlt
      go_wp2_with fail
      go_loopw [7] (fun inv wr => ∃ (v : Value) (l : List It) (t : Int) (ks : List Nat), OS w0 wr h FVV v LTT l t inv ks i (fun k => (X k).2.2)) (fun inv _ => match inv with | .slice _ n _ => n | _ => 0)
      case atStart => exact ⟨_, _, _, _, HS.out⟩
      case round =>
        obtain ⟨v, l, t, ks, hs⟩ := hrel
        obtain ⟨ain, cin, rfl⟩ := hs.r.slice
        have HS := hide hs
        clear hs
        match ks, l, HS with
        | [], l, HS =>
          obtain rfl : l = [] := List.eq_nil_of_length_eq_zero (by simpa using HS.out.len)
          have HPO := hide (pop_none h FVV v t wr HS.out.o.hp)
          go_wp2_with fail
          with_reducible refine HPO.out.mono ?_
          rintro e w5 ⟨rfl, hg5⟩
          have HEND := hide ((HGW.out.trans (HS.out.o.g.trans hg5)).alloc (.cells #[I 0, I 0] 26))
          clear hg5 HPO HS
          go_wp2_with fail
          go_ret
          exact ⟨rfl, HEND.out⟩
        | k1 :: ks1, [], HS => exact absurd HS.out.len (by simp)
        | k1 :: ks1, x :: l1, HS =>
          generalize k1 :: ks1 = ks at HS
          obtain ⟨k0, n0, hn0, hx, hpm⟩ := HS.out.pick
          obtain ⟨⟨xk, xt⟩, xu⟩ := x
          simp only [Prod.mk.injEq] at hx
          obtain ⟨rfl, rfl⟩ := hx
          have hk0i : k0 < i := HS.out.lt k0 (List.mem_of_getElem? hn0)
          have hnl : n0 < ks.length := (List.getElem?_eq_some_iff.1 hn0).1
          have hfew := HS.out.few
          have hlen := HS.out.len
          have HPO := hide (pop_some w0 FVV LTT HAH.out h v (((X k0).2.2, (k0 : Int)), xu) l1 t wr HS.out.o.g HS.out.o.hp (by simp at hlen; omega) HS.out.o.h HS.out.o.o)
          obtain ⟨g, cap, rfl, rfl⟩ : ∃ g cap, ain = some ⟨g, 0, none⟩ ∧ cin = cap := by
            obtain ⟨g, cap, e⟩ := own_block HS.out.r (by omega)
            simp only [Value.slice.injEq] at e
            exact ⟨g, cap, e.1, e.2.2⟩
          have f0 : (0 : Int) < ks.length := smallG hnl
          clear hlen
          go_wp2_with fail
          with_reducible refine HPO.out.mono ?_
          rintro e w5 ⟨rfl, v6, l6, hp6, hperm6, hhi6, hch6, hob6⟩
          obtain ⟨ho6, hr6⟩ := HS.out.popped hp6 hhi6 hch6 hob6
          have HO6 := hide ho6
          have HR6 := hide hr6
          have HPM := hide ((hperm6.map (·.1)).trans hpm)
          have HND := hide HS.out.nd
          have HLT := hide HS.out.lt
          have HT0 := hide HS.out.t0
          have HT1 := hide HS.out.t1
          clear hp6 hperm6 hhi6 hch6 hob6 ho6 hr6 hpm HS HPO
          go_wp2_with fail
          obtain ⟨xb, hxb⟩ : ∃ xb, xb = w5.heap.size := ⟨_, rfl⟩
          have HX7 : Hid (Blk (w5.alloc (.cells #[I (X k0).2.2, I (k0 : Int)] 26)) xb 26 [I (X k0).2.2, I (k0 : Int)]) := by rw [hxb]; exact Blk.new w5 [I (X k0).2.2, I (k0 : Int)] 26
          have HG7 := hide ((G.refl w5).alloc (.cells #[I (X k0).2.2, I (k0 : Int)] 26))
          rw [← hxb]
          generalize w5.alloc (.cells #[I (X k0).2.2, I (k0 : Int)] 26) = w7 at HX7 HG7 ⊢
          have HO7 := hide (HO6.out.G HG7.out)
          have HR7 := hide (HR6.out.G HG7.out)
          clear hxb HO6 HR6 HG7
          go_loopw [16, 17] (fun atv kv wr => ∃ m : Nat, m ≤ ks.length ∧ kv = I m ∧ atv = I (if n0 < m then (n0 : Int) else -1) ∧ G w7 wr) (fun _ kv _ => ks.length - (RowKit.intOf kv).toNat)
          case atStart => exact ⟨0, Nat.zero_le _, rfl, by simp, G.refl _⟩
          case round =>
            obtain ⟨m, hm, rfl, rfl, hgm⟩ := hrel
            by_cases hml : m < ks.length
            · obtain ⟨km, hkm⟩ : ∃ km, ks[m]? = some km := ⟨_, List.getElem?_eq_getElem hml⟩
              have hci := (HR7.out.G hgm).at hkm
              have hxc := (HX7.out.G hgm).cell
              have hmI : (m : Int) < ks.length := by omega
              have hwm : wrap64 ((m : Int) + 1) = (m : Int) + 1 := by unfold wrap64; omega
              have HGM := hide hgm
              clear hgm
              by_cases hmn : m = n0
              · subst hmn
                obtain rfl : km = k0 := by rw [hn0] at hkm; exact (Option.some.inj hkm).symm
                rw [if_neg (Nat.lt_irrefl m)]
                clear hfew hk0i hnl hm hkm hn0 hL hLa
                go_wp2_with fail
                go_quiet (fail)
                go_wp2_with fail
                go_roundw
                case rel => exact ⟨m + 1, hml, by first | (rw [hwm]; simp; done) | simp, by simp, HGM.out.trans (g_drewN _ _)⟩
                case measure => first | (rw [hwm]; exact meas hml) | exact meas hml
              · have hkk : km ≠ k0 := fun e => hmn ((List.getElem?_inj hml HND.out).1 (by rw [hkm, hn0, e]))
                have hne : ((km : Int) == (k0 : Int)) = false := beq_eq_false_iff_ne.2 (fun e => hkk (Int.ofNat.inj e))
                have hif : (if n0 < m + 1 then (n0 : Int) else -1) = (if n0 < m then (n0 : Int) else -1) := by
                  by_cases q : n0 < m
                  · rw [if_pos q, if_pos (Nat.lt_succ_of_lt q)]
                  · rw [if_neg q, if_neg (fun r => (Nat.lt_or_eq_of_le (Nat.le_of_lt_succ r)).elim q (fun e => hmn e.symm))]
                have HIF := hide hif
                clear hif
                generalize (if n0 < m then (n0 : Int) else -1) = av at HIF ⊢
                clear hfew hk0i hnl hm hkm hn0 hL hLa hmn hkk
                go_wp2_with fail
                go_quiet (fail)
                go_wp2_with fail
                go_roundw
                case rel => exact ⟨m + 1, hml, by first | (rw [hwm]; simp; done) | simp, by rw [HIF.out], HGM.out.trans (g_drewN _ _)⟩
                case measure => first | (rw [hwm]; exact meas hml) | exact meas hml
            · obtain rfl : m = ks.length := by omega
              have hmI : ¬ ((ks.length : Int) < ks.length) := by omega
              rw [if_pos hnl]
              have HR := hide (HR7.out.G hgm)
              have HO := hide (HO7.out.G hgm)
              have hcp := HR.out.cap
              have hzw := HO.out.g.size
              obtain ⟨v8, w8, hrun8, hr8, hch8, hob8⟩ := app_ints wr w0.heap.size (.slice none 0 0) [] (IRow.nil _ _) ⟨g, 0, none⟩ n0 cin (ks.take n0) (by rw [List.length_take]; exact Nat.min_eq_left (Nat.le_of_lt hnl)) (fun j k hj => by
                rw [Addr.add_mid, Nat.zero_add]
                rw [List.getElem?_take] at hj
                split at hj
                · exact HR.out.at hj
                · cases hj) (smallA2 hnl hfew hL) hzw
              have HR8 := hide (HR.out.chg hch8 (fun b _ q => by simp [Value.ownBlock] at q))
              have HO8 := hide (OS.row HO.out (IRow.nil wr w0.heap.size) hch8)
              by_cases hce : cin = n0 + 1
              · subst hce
                obtain ⟨v9, w9, hrun9, hr9, hch9, hob9⟩ := app_ints w8 w0.heap.size v8 (ks.take n0) hr8 ⟨g, 0, none⟩ (ks.length - (n0 + 1)) 0 (ks.drop (n0 + 1)) (by rw [List.length_drop]) (fun j k hj => by
                  rw [List.getElem?_drop] at hj
                  have q1 := (List.getElem?_eq_some_iff.1 hj).1
                  exact absurd q1 (smallI rfl hcp)) (by rw [List.length_take]; exact smallB2 hnl hfew hL) HO8.out.g.size
                have HO9 := hide (OS.row HO8.out hr8 hch9)
                rw [← erase_at HND.out hn0] at hr9
                have HSF : Hid (OS w0 w9 h FVV v6 LTT l6 t v9 (ks.erase k0) i (fun k => (X k).2.2)) := ⟨HO9.out, hr9, HND.out.erase _, fun k hk => HLT.out k (List.mem_of_mem_erase hk), HPM.out, HT0.out, HT1.out⟩
                have hle : (ks.erase k0).length = ks.length - 1 := List.length_erase_of_mem (List.mem_of_getElem? hn0)
                obtain ⟨a9, c9, e9⟩ := hr9.slice
                obtain ⟨a8, c8, e8⟩ := hr8.slice
                rw [List.nil_append, List.length_take, Nat.min_eq_left (Nat.le_of_lt hnl)] at e8
                rw [hle] at e9
                subst e9
                subst e8
                have HRUN8 := hide hrun8
                have HRUN9 := hide hrun9
                have f1 : ¬ ((((n0 + 1) : Nat) : Int) < n0) := smallC hnl hcp
                have f2 : ¬ ((ks.length : Int) < n0 + 1) := smallD hnl
                have f3 : wrap64 ((n0 : Int) + 1) = (n0 : Int) + 1 := smallE2 hnl hfew hL
                have f4 : ¬ ((n0 : Int) < 0) := smallF n0
                have f5 : (0 : Int) < ks.length := smallG hnl
                have HMS : Hid (ks.length - 1 < ks.length) := Nat.sub_lt (Nat.lt_of_le_of_lt (Nat.zero_le _) hnl) Nat.one_pos
                clear hk0i hgm hrun8 hr8 hch8 hob8 hrun9 hr9 hch9 hob9 HR HO HR8 HO8 HO9 HR7 HO7 HX7 HPM HLT HT0 HT1 hcp hzw hle
                go_wp2_with (first | (at_builtin; refine wpList_append_run rfl _ _ 35 rfl (.slice none 0 0) (.slice (some ⟨g, 0, none⟩) n0 (n0 + 1)) rfl rfl HRUN8.out ?_) | (at_builtin; refine wpList_append_run rfl _ _ 35 rfl (.slice a8 n0 c8) (.slice (some ⟨g, 0, none⟩) (ks.length - (n0 + 1)) 0) rfl rfl HRUN9.out ?_) | fail)
                go_roundw
                case rel => exact ⟨_, _, _, _, HSF.out⟩
                case measure => exact HMS.out
              · obtain ⟨v9, w9, hrun9, hr9, hch9, hob9⟩ := app_ints w8 w0.heap.size v8 (ks.take n0) hr8 ⟨g, n0 + 1, none⟩ (ks.length - (n0 + 1)) (cin - (n0 + 1)) (ks.drop (n0 + 1)) (by rw [List.length_drop]) (fun j k hj => by
                  rw [Addr.add_mid]
                  rw [List.getElem?_drop] at hj
                  exact HR8.out.at hj) (by rw [List.length_take]; exact smallB2 hnl hfew hL) HO8.out.g.size
                have HO9 := hide (OS.row HO8.out hr8 hch9)
                rw [← erase_at HND.out hn0] at hr9
                have HSF : Hid (OS w0 w9 h FVV v6 LTT l6 t v9 (ks.erase k0) i (fun k => (X k).2.2)) := ⟨HO9.out, hr9, HND.out.erase _, fun k hk => HLT.out k (List.mem_of_mem_erase hk), HPM.out, HT0.out, HT1.out⟩
                have hle : (ks.erase k0).length = ks.length - 1 := List.length_erase_of_mem (List.mem_of_getElem? hn0)
                obtain ⟨a9, c9, e9⟩ := hr9.slice
                obtain ⟨a8, c8, e8⟩ := hr8.slice
                rw [List.nil_append, List.length_take, Nat.min_eq_left (Nat.le_of_lt hnl)] at e8
                rw [hle] at e9
                subst e9
                subst e8
                have HRUN8 := hide hrun8
                have HRUN9 := hide hrun9
                have f1 : ¬ (((cin : Nat) : Int) < n0) := smallC hnl hcp
                have f2 : ¬ ((ks.length : Int) < n0 + 1) := smallD hnl
                have f3 : wrap64 ((n0 : Int) + 1) = (n0 : Int) + 1 := smallE2 hnl hfew hL
                have f4 : ¬ ((n0 : Int) < 0) := smallF n0
                have f5 : (0 : Int) < ks.length := smallG hnl
                have HMS : Hid (ks.length - 1 < ks.length) := Nat.sub_lt (Nat.lt_of_le_of_lt (Nat.zero_le _) hnl) Nat.one_pos
                clear hk0i hgm hrun8 hr8 hch8 hob8 hrun9 hr9 hch9 hob9 HR HO HR8 HO8 HO9 HR7 HO7 HX7 HPM HLT HT0 HT1 hcp hzw hle
                go_wp2_with (first | (at_builtin; refine wpList_append_run rfl _ _ 35 rfl (.slice none 0 0) (.slice (some ⟨g, 0, none⟩) n0 cin) rfl rfl HRUN8.out ?_) | (at_builtin; refine wpList_append_run rfl _ _ 35 rfl (.slice a8 n0 c8) (.slice (some ⟨g, n0 + 1, none⟩) (ks.length - (n0 + 1)) (cin - (n0 + 1))) rfl rfl HRUN9.out ?_) | fail)
                go_roundw
                case rel => exact ⟨_, _, _, _, HSF.out⟩
                case measure => exact HMS.out
theorem once_law (v u : Value) (La : Nat) (Xa : Nat → Bool) (hLa : La ≤ 1048576) (L : Nat) (X : Nat → Bool × Bool × Int) (hL : L ≤ 1048576) (W : World) (hv : ∃ a cap, v = .slice a La cap ∧ (La = 0 ∨ ∃ b off, a = some ⟨b, off, none⟩ ∧ Bools W b off La Xa)) (hu : ∃ a cap, u = .slice a L cap ∧ (L = 0 ∨ ∃ b off, a = some ⟨b, off, none⟩ ∧ Steps W b off L X)) : Calls Try.prog 4 #[v, u] W fun e W' => e = .returned (.bool true) ∧ G W W' := by
  obtain ⟨a, cap, rfl, h⟩ := hv
  obtain ⟨a', cap', rfl, h'⟩ := hu
  exact once_any a La cap Xa hLa a' L cap' X hL W h h'
end Go.Proofs.Ytbhbmcgjfcgdgaa
