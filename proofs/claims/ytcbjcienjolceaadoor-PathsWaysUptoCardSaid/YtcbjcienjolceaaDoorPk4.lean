/- Paths: the document's search, walked. -/
import Derived.Test.YtcbjcienjolceaaDoorPk3b
namespace Go.Proofs.YtcbjcienjolceaaDoor
open Go.RowKit

/-- How many the document has settled, by the memory. -/
def rcntPk4 (b7 : Nat) (w : World) : Nat := match w.cell? ⟨b7, 0, none⟩ with | some (.slice _ n _) => n | _ => 0
set_option maxRecDepth 100000 in
set_option maxHeartbeats 4000000 in
theorem search_aim (W : World) (rv : Value) (rs : List Nr) (tail : Bool) (from_ to_ : Int) (hops : Bool) (hN : Nrs W rv rs) (hrl : rs.length ≤ 1048576) (hal : ∀ id, (netOf rs tail id).1.length ≤ 1048576) (hf : R64 from_)  (R : Rs) (hR : R = srch hops rs tail (some to_) (-1) 4097 [] [(from_, 0)] []) :
    Calls Tryd.prog 34 #[.agg #[rv, .bool tail], I from_, .agg #[.bool true, I to_, I (-1), .bool hops]] W fun e W' => ∃ sv av, e = .returned (.agg #[sv, av, I R.code, .bool R.hit]) ∧ Sr W.heap.size W' sv R.st ∧ Rw W.heap.size 2 1 W' av R.asked.length (R.asked.map I) ∧ G W W' := by
  have HN := hide hN
  have HAL := hide hal
  obtain ⟨rva, rvc, hrv, -⟩ := hN
  subst hrv
  have H0 : Hid (∀ w, w = (((((W.alloc (.cells #[.slice rva rs.length rvc, .bool tail] 25)).alloc (.cells #[.bool true, I to_, I (-1), .bool hops] 89)).alloc (.cells #[.slice none 0 0, .slice none 0 0, I 0, .bool false] 86)).alloc (.cells #[.slice none 0 0, .slice none 0 0, I 0, .bool false] 86)).alloc (.cells #[I from_, I 0] 91)) → ∃ b3 b5 b6 b7 b9, b3 = W.heap.size ∧ b5 = W.heap.size + 1 ∧ b6 = W.heap.size + 2 ∧ b7 = W.heap.size + 3 ∧ b9 = W.heap.size + 4 ∧ RS W w b3 b5 b6 b7 b9 (.slice rva rs.length rvc) tail true to_ (-1) hops (.slice none 0 0) (.slice none 0 0) (.slice none 0 0) [] [] [] (from_, 0)) := by
    rintro w rfl
    refine ⟨_, _, _, _, _, rfl, rfl, rfl, rfl, rfl, ?_⟩
    have n3 := Blk.new W [.slice rva rs.length rvc, .bool tail] 25
    have n5 := Blk.new (W.alloc (.cells #[.slice rva rs.length rvc, .bool tail] 25)) [.bool true, I to_, I (-1), .bool hops] 89
    have n6 := Blk.new ((W.alloc (.cells #[.slice rva rs.length rvc, .bool tail] 25)).alloc (.cells #[.bool true, I to_, I (-1), .bool hops] 89)) [.slice none 0 0, .slice none 0 0, I 0, .bool false] 86
    have n7 := Blk.new (((W.alloc (.cells #[.slice rva rs.length rvc, .bool tail] 25)).alloc (.cells #[.bool true, I to_, I (-1), .bool hops] 89)).alloc (.cells #[.slice none 0 0, .slice none 0 0, I 0, .bool false] 86)) [.slice none 0 0, .slice none 0 0, I 0, .bool false] 86
    have n9 := Blk.new ((((W.alloc (.cells #[.slice rva rs.length rvc, .bool tail] 25)).alloc (.cells #[.bool true, I to_, I (-1), .bool hops] 89)).alloc (.cells #[.slice none 0 0, .slice none 0 0, I 0, .bool false] 86)).alloc (.cells #[.slice none 0 0, .slice none 0 0, I 0, .bool false] 86)) [I from_, I 0] 91
    simp only [World.size_alloc] at n5 n6 n7 n9
    have ga : ∀ (w : World) (o : Obj), G w (w.alloc o) := fun w o => (G.refl w).alloc o
    exact ⟨((((ga _ _).alloc _).alloc _).alloc _).alloc _, n3.G ((((ga _ _).alloc _).alloc _).alloc _), n5.G (((ga _ _).alloc _).alloc _), n6.G ((ga _ _).alloc _), n7.G (ga _ _), n9, Rw.nil _ _ _ _, Rw.nil _ _ _ _, Rw.nil _ _ _ _, fun b hb => by simp [Value.ownBlock] at hb, fun b hb => by simp [Value.ownBlock] at hb, ⟨by omega, by omega, by omega, by omega, by omega⟩, by omega⟩
  have HR := hide hR
  clear hal hR
  go_enter Tryd.func34, Tryd.ntmps34
  go_wp2_with fail
  generalize hw0 : World.alloc _ (.cells #[I from_, I 0] 91) = w0
  obtain ⟨b3, b5, b6, b7, b9, e3, e5, e6, e7, e9, k0⟩ := H0.out w0 hw0.symm
  rw [← e9, ← e7, ← e6, ← e5, ← e3]
  have HK0 := hide k0
  clear e3 e5 e6 e7 e9 hw0 H0 k0
  go_loopw [8] (fun nv wr => ∃ (st near : List Sn) (asked : List Int) (x : Sn) (sv av : Value), RS W wr b3 b5 b6 b7 b9 (.slice rva rs.length rvc) tail true to_ (-1) hops sv av nv st near asked x ∧ srchB hops rs tail (some to_) (-1) (4096 - st.length) st x near asked = R ∧ st.length < 4096 ∧ Okn (x :: near) ∧ near.length ≤ st.length * 1048576 ∧ asked.length ≤ st.length) (fun _ wr => 4096 - rcntPk4 b7 wr)
  case atStart =>
    refine ⟨[], [], [], (from_, 0), _, _, HK0.out, ?_, by decide, fun p hp => ?_, by simp, by simp⟩
    · have := HR.out
      rw [srch_B (by simp) (by decide)] at this
      exact this.symm
    · simp at hp
      subst hp
      exact ⟨hf, by simp⟩
  case round =>
    obtain ⟨st, near, asked, x, sv, av, k, hsb, hst4, hok, hnl, hal4⟩ := hrel
    obtain ⟨sva, svc, rfl⟩ := k.s.form
    obtain ⟨ava, avc, rfl⟩ := k.a.form
    obtain ⟨nva, nvc, rfl⟩ := k.n.form
    have hrc : rcntPk4 b7 wr = st.length := by
      have := k.k7.cell 0
      simp at this
      simp [rcntPk4, this]
    have HRC := hide hrc
    obtain ⟨wr0, hwr0⟩ : ∃ wr0, wr0 = wr := ⟨_, rfl⟩
    rw [← hwr0] at HRC
    have HWR0 := hide hwr0
    clear hwr0
    -- it is settled
    have g1 : G wr (wr.alloc (.cells #[I x.1, I x.2] 91)) := (G.refl wr).alloc _
    obtain ⟨sv2, w2, q1, q2, q3, q4⟩ := app_Sn (wr.alloc (.cells #[I x.1, I x.2] 91)) W.heap.size (.slice sva st.length svc) st.length (flS st) (k.s.G g1) ⟨wr.heap.size, 0, none⟩ 1 1 [I x.1, I x.2] rfl (fun j u hj => by rw [Addr.add_mid, Nat.zero_add, (Blk.new wr [I x.1, I x.2] 91).cell]; exact hj) (fun u hu => by simp at hu; rcases hu with rfl | rfl <;> rfl) (by omega) (Nat.le_trans k.g.size g1.size)
    have q2' : Sr W.heap.size w2 sv2 (st ++ [x]) := by
      show Rw _ _ _ _ _ _ _
      rw [flS_app, List.length_append]
      exact q2
    obtain ⟨sva2, svc2, rfl⟩ := Rw.form q2
    have HK3 := hide (k.settle _ g1 q2' q3 q4)
    have hs7 := (k.k7.G g1).chg q3 ((k.s.G g1).offb (k.k7.G g1) (by decide))
    have c7 := k.k7.cell
    have c9 := k.k9.cell
    have c72 := hs7.cell
    have z72 := hs7.frozen
    have HRUN := hide q1
    have HSB := hide hsb
    have HOK := hide hok
    have HNL := hide (And.intro hst4 (And.intro hnl hal4))
    have HK := hide k
    clear k q1 q2 q2' q3 q4 hs7 hsb hok hnl hal4 hst4 hrc g1
    have c53 := HK3.out.k5.cell
    have c93 := HK3.out.k9.cell
    have c73 := HK3.out.k7.cell
    have z73 := HK3.out.k7.frozen
    have c63 := HK3.out.k6.cell
    have z63 := HK3.out.k6.frozen
    have n67 := HK3.out.ne
    have n76 := Ne.symm HK3.out.ne
    by_cases hto : x.1 = to_
    · have htb : (x.1 == to_) = true := by simpa using hto
      have HRE : Hid (R = ⟨st ++ [x], asked, 0, true⟩) := by
        show R = _
        rw [← HSB.out]
        unfold srchB
        rw [if_pos (congrArg some hto.symm)]
      have HT := hide (HK3.out.tell 0 true ((w2.setCell ⟨b7, 0, none⟩ (.slice sva2 (st.length + 1) svc2)).setCell ⟨b7, 3, none⟩ (.bool true)) (chg_setCell (F := fun b => b = b7) _ _ (.inl rfl)))
      have c6e := HT.out.2.1.cell
      clear hto
      go_wp2_with (first | (at_builtin; refine wpList_append_run rfl _ _ 84 rfl (.slice sva st.length svc) (.slice (some ⟨wr.heap.size, 0, none⟩) 1 1) rfl rfl HRUN.out ?_) | fail)
      refine bodyPost_ret (v := .agg #[.slice sva2 (st.length + 1) svc2, .slice ava asked.length avc, I 0, .bool true]) (by simp [results, Tryd.results34, go_sem, c6e]) rfl ⟨.slice sva2 (st.length + 1) svc2, .slice ava asked.length avc, ?_, ?_⟩
      · rw [HRE.out]
      · rw [HRE.out]
        exact ⟨HT.out.2.2.1, HT.out.2.2.2, HT.out.1⟩
    · have htb : (x.1 == to_) = false := beq_eq_false_iff_ne.2 hto
      have haim : ¬ ((some to_ : Option Int) = some x.1) := fun e => hto (Option.some.inj e).symm
      -- it is asked
      have g4 : G (w2.setCell ⟨b7, 0, none⟩ (.slice sva2 (st.length + 1) svc2)) ((w2.setCell ⟨b7, 0, none⟩ (.slice sva2 (st.length + 1) svc2)).alloc (.cells #[I x.1] 2)) := (G.refl _).alloc _
      obtain ⟨av5, w5, q1, q2, q3, q4⟩ := app_I ((w2.setCell ⟨b7, 0, none⟩ (.slice sva2 (st.length + 1) svc2)).alloc (.cells #[I x.1] 2)) W.heap.size (.slice ava asked.length avc) asked.length (asked.map I) (HK3.out.a.G g4) ⟨(w2.setCell ⟨b7, 0, none⟩ (.slice sva2 (st.length + 1) svc2)).heap.size, 0, none⟩ 1 1 [I x.1] rfl (fun j u hj => by rw [Addr.add_mid, Nat.zero_add, (Blk.new (w2.setCell ⟨b7, 0, none⟩ (.slice sva2 (st.length + 1) svc2)) [I x.1] 2).cell]; exact hj) (fun u hu => by simp at hu; subst hu; rfl) (by have := HNL.out; omega) (Nat.le_trans HK3.out.g.size g4.size)
      have q2' : Rw W.heap.size 2 1 w5 av5 (asked ++ [x.1]).length ((asked ++ [x.1]).map I) := by
        rw [List.length_append, List.map_append]
        exact q2
      obtain ⟨ava5, avc5, rfl⟩ := Rw.form q2
      have HK6 := hide (HK3.out.ask _ g4 q2' q3 q4)
      have hs75 := (HK3.out.k7.G g4).chg q3 ((HK3.out.a.G g4).offb (HK3.out.k7.G g4) (by decide))
      have c75 := hs75.cell
      have z75 := hs75.frozen
      have c36 := HK6.out.k3.cell
      have c96 := HK6.out.k9.cell
      have sz3 : (w2.setCell ⟨b7, 0, none⟩ (.slice sva2 (st.length + 1) svc2)).heap.size = w2.heap.size := by simp
      have HRUN5 := hide q1
      rw [sz3] at HRUN5
      clear q1 q2 q2' q3 q4 hs75 g4
      go_wp2_with (first | (at_builtin; refine wpList_append_run rfl _ _ 84 rfl (.slice sva st.length svc) (.slice (some ⟨wr.heap.size, 0, none⟩) 1 1) rfl rfl HRUN.out ?_) | (at_builtin; refine wpList_append_run rfl _ _ 26 rfl (.slice ava asked.length avc) (.slice (some ⟨w2.heap.size, 0, none⟩) 1 1) rfl rfl HRUN5.out ?_) | fail)
      generalize (w5.setCell ⟨b7, 1, none⟩ (.slice ava5 (asked.length + 1) avc5)) = w6 at HK6 c36 c96 ⊢
      clear c53 c93 c73 z73 c63 z63 c75 z75 HRUN HRUN5 c36 c96 c7 c9 c72 z72 HK3 sz3
      have hx64 := (HOK.out x (by simp)).1
      refine (of_any W w6 _ rs tail x.1 HN.out HK6.out.g hx64 hrl).mono ?_
      rintro e w7 ⟨lv, rfl, hax, hg7⟩
      have HK7 := hide (HK6.out.grow hg7)
      have HA7 := hide hax
      obtain ⟨la, lc, rfl⟩ : ∃ la lc, lv = .slice la (netOf rs tail x.1).1.length lc := by
        obtain ⟨a, c, e, -, -⟩ := (hax.arcs (HK6.out.g.trans hg7)).at_
        exact ⟨a, c, e⟩
      clear hax hg7 HK6
      obtain ⟨asl, has⟩ : ∃ asl, asl = (netOf rs tail x.1).1 := ⟨_, rfl⟩
      obtain ⟨code, hcd⟩ : ∃ code, code = (netOf rs tail x.1).2 := ⟨_, rfl⟩
      have hall : asl.length ≤ 1048576 := by rw [has]; exact HAL.out _
      rw [← has, ← hcd]
      rw [← has] at HA7
      have hsb := HSB.out
      unfold srchB at hsb
      rw [if_neg haim, if_pos (.inl (by decide)), ← has, ← hcd] at hsb
      have HSB2 := hide hsb
      clear has hcd hsb HSB
      have c77 := HK7.out.k7.cell
      have z77 := HK7.out.k7.frozen
      have c67 := HK7.out.k6.cell
      have z67 := HK7.out.k6.frozen
      by_cases hcode : code = 0
      · subst hcode
        clear c67 z67 c77 z77
        go_wp2_with fail
        obtain ⟨RR, hRR⟩ : ∃ RR, RR = relaxR hops x.2 (st ++ [x]) asl near := ⟨_, rfl⟩
        have hsb := HSB2.out
        rw [if_neg (show ¬ ((0 : Int) ≠ 0) by decide), ← hRR] at hsb
        have HSB3 := hide hsb
        have HRR := hide hRR
        clear hsb hRR HSB2
        go_loopw [8, 12] (fun nv iv wi => ∃ (kk : Nat) (near1 : List Sn), iv = I kk ∧ kk ≤ asl.length ∧ relaxR hops x.2 (st ++ [x]) (asl.drop kk) near1 = RR ∧ RS W wi b3 b5 b6 b7 b9 (.slice rva rs.length rvc) tail true to_ (-1) hops (.slice sva2 (st.length + 1) svc2) (.slice ava5 (asked.length + 1) avc5) nv (st ++ [x]) near1 (asked ++ [x.1]) x ∧ ArcX W wi (.slice la asl.length lc) asl ∧ Okn near1 ∧ near1.length ≤ near.length + kk) (fun _ iv _ => asl.length - (RowKit.intOf iv).toNat)
        case atStart => exact ⟨0, near, rfl, Nat.zero_le _, HRR.out.symm, HK7.out, HA7.out, fun p hp => HOK.out p (by simp [hp]), by omega⟩
        case round =>
          obtain ⟨kk, near1, rfl, hkk, hrr, kI, hax, hokn, hnl1⟩ := hrel
          obtain ⟨nva1, nvc1, rfl⟩ := kI.n.form
          have hsx := HOK.out x (by simp)
          by_cases hkl : kk < asl.length
          · have hkI : (kk : Int) < asl.length := by omega
            obtain ⟨⟨ae, at_, aw⟩, ha⟩ : ∃ a, asl[kk]? = some a := ⟨_, List.getElem?_eq_getElem hkl⟩
            have hac := hax.arcs kI.g
            have hoka := hac.ok _ (List.mem_of_getElem? ha)
            obtain ⟨-, ab, aoff, rfl, y1, y2, y3, hbl⟩ := hac.get ha
            have hdrop : asl.drop kk = (ae, at_, aw) :: asl.drop (kk + 1) := by
              rw [List.drop_eq_getElem_cons hkl]
              congr 1
              have := List.getElem?_eq_getElem hkl
              rw [ha] at this
              exact (Option.some.inj this).symm
            rw [hdrop] at hrr
            unfold relaxR at hrr
            simp only at y1 y2 y3
            have HRR1 := hide hrr
            have HKI := hide kI
            have HAX := hide hax
            have HBL := hide hbl
            have HAO := hide hoka
            have HON := hide (And.intro hokn hnl1)
            have HKL := hide hkl
            have HCE : Hid (∀ V, (G wr V ∨ Chg (fun q => (Value.slice nva1 near1.length nvc1).ownBlock = some q) wr V) → V.cell? ⟨ab, aoff + kk * 3, none⟩ = some (I ae) ∧ V.cell? ⟨ab, aoff + kk * 3 + 1, none⟩ = some (I at_) ∧ V.cell? ⟨ab, aoff + kk * 3 + 2, none⟩ = some (I aw)) := by
              intro V hV
              have hGV : G W V := by
                rcases hV with q | q
                · exact kI.g.trans q
                · exact (kI.g.chg (F := fun _ => False)).more q (fun i hi e => by have := (kI.n.own e).1; omega) |>.G (fun _ q => q.elim)
              have hXV : ArcX W V (.slice (some ⟨ab, aoff, none⟩) asl.length lc) asl := by
                rcases hV with q | q
                · exact hax.G q
                · exact hax.chg q (fun b ys hb => kI.n.offb hb (by decide))
              obtain ⟨-, b', o', e', z1, z2, z3, -⟩ := (hXV.arcs hGV).get ha
              cases e'
              exact ⟨z1, z2, z3⟩
            clear kI hax hac hbl hoka hokn hnl1 hkl hdrop ha hrr
            go_wp2_with fail
            refine wp_region_noPanic ?_
            refine wp_region_held_drew (S := (fun V => (V.cell? ⟨ab, aoff + kk * 3, none⟩ = some (I ae) ∧ V.cell? ⟨ab, aoff + kk * 3 + 1, none⟩ = some (I at_) ∧ V.cell? ⟨ab, aoff + kk * 3 + 2, none⟩ = some (I aw)) ∧ (∀ j, V.cell? ⟨b5, j, none⟩ = ([.bool true, I to_, I (-1), .bool hops] : List Value)[j]?))) (by kernel_rfl) (⟨HCE.out _ (.inl (G.drew (G.refl _))), (HKI.out.grow (G.drew (G.refl _))).k5.cell⟩) (fun hHeld => ?_)
            refine wpAnyH_take (i := 0) (v := ?_) rfl (by kernel_rfl) (by kernel_rfl) (by kernel_rfl) (fun _ _ _ h => h) (Or.inl ⟨by rfl, ?_⟩) hHeld ?_
            rotate_left 1
            · (intro w hSw; obtain ⟨⟨q1, q2, q3⟩, q4⟩ := hSw; go_simp; try with_reducible rfl)
            try simp only [Act.put, List.getElem_toArray, List.getElem_cons_zero, List.setIfInBounds_toArray, List.set_cons_zero, List.set_cons_succ]
            refine wpAnyH_take (i := 1) (v := ?_) rfl (by kernel_rfl) (by kernel_rfl) (by kernel_rfl) (fun _ _ _ h => h) (Or.inl ⟨by rfl, ?_⟩) hHeld ?_
            rotate_left 1
            · (intro w hSw; obtain ⟨⟨q1, q2, q3⟩, q4⟩ := hSw; go_simp; try with_reducible rfl)
            try simp only [Act.put, List.getElem_toArray, List.getElem_cons_zero, List.getElem_cons_succ, List.setIfInBounds_toArray, List.set_cons_zero, List.set_cons_succ]
            refine wpAnyH_take (i := 2) (v := ?_) rfl (by kernel_rfl) (by kernel_rfl) (by kernel_rfl) (fun _ _ _ h => h) (Or.inl ⟨by rfl, ?_⟩) hHeld ?_
            rotate_left 1
            · (intro w hSw; obtain ⟨⟨q1, q2, q3⟩, q4⟩ := hSw; go_simp; try with_reducible rfl)
            try simp only [Act.put, List.getElem_toArray, List.getElem_cons_zero, List.getElem_cons_succ, List.setIfInBounds_toArray, List.set_cons_zero, List.set_cons_succ]
            refine wpAnyH_take (i := 3) (v := ?_) rfl (by kernel_rfl) (by kernel_rfl) (by kernel_rfl) (fun _ _ _ h => h) (Or.inl ⟨by rfl, ?_⟩) hHeld ?_
            rotate_left 1
            · (intro w hSw; obtain ⟨⟨q1, q2, q3⟩, q4⟩ := hSw; go_simp; try with_reducible rfl)
            try simp only [Act.put, List.getElem_toArray, List.getElem_cons_zero, List.getElem_cons_succ, List.setIfInBounds_toArray, List.set_cons_zero, List.set_cons_succ]
            refine wpAnyH_take (i := 4) (v := ?_) rfl (by kernel_rfl) (by kernel_rfl) (by kernel_rfl) (fun _ _ _ h => h) (Or.inl ⟨by rfl, ?_⟩) hHeld ?_
            rotate_left 1
            · (intro w hSw; obtain ⟨⟨q1, q2, q3⟩, q4⟩ := hSw; go_simp; try with_reducible rfl)
            try simp only [Act.put, List.getElem_toArray, List.getElem_cons_zero, List.getElem_cons_succ, List.setIfInBounds_toArray, List.set_cons_zero, List.set_cons_succ]
            refine wpAnyH_take (i := 5) (v := ?_) rfl (by kernel_rfl) (by kernel_rfl) (by kernel_rfl) (fun _ _ _ h => h) (Or.inl ⟨by rfl, ?_⟩) hHeld ?_
            rotate_left 1
            · (intro w hSw; obtain ⟨⟨q1, q2, q3⟩, q4⟩ := hSw; go_simp; try with_reducible rfl)
            try simp only [Act.put, List.getElem_toArray, List.getElem_cons_zero, List.getElem_cons_succ, List.setIfInBounds_toArray, List.set_cons_zero, List.set_cons_succ]
            refine wpAnyH_ready (rs := [6]) (by kernel_rfl) (by simp) (AllReadyH.cons rfl (fun K hK => ?_) AllReadyH.nil)
            clear hHeld
            go_simp
            refine (weigh_any ae at_ aw hops _).mono ?_
            rintro e w8 ⟨rfl, hg8⟩
            have HG8 := hide (G.trans (G.drew (G.refl wr)) hg8)
            clear hg8
            go_wp2_with fail
            refine hK.out _ _ (⟨HCE.out _ (.inl HG8.out), (HKI.out.grow HG8.out).k5.cell⟩) (fun hHeld => ?_)
            clear hK K
            try simp only [Act.put, List.getElem_toArray, List.getElem_cons_zero, List.getElem_cons_succ, List.setIfInBounds_toArray, List.set_cons_zero, List.set_cons_succ]
            refine wpAnyH_take (i := 7) (v := ?_) rfl (by kernel_rfl) (by kernel_rfl) (by kernel_rfl) (fun _ _ _ h => h) (Or.inl ⟨by rfl, ?_⟩) hHeld ?_
            rotate_left 1
            · (intro w hSw; (try dsimp only at hSw); go_simp; try with_reducible rfl)
            try simp only [Act.put, List.getElem_toArray, List.getElem_cons_zero, List.getElem_cons_succ, List.setIfInBounds_toArray, List.set_cons_zero, List.set_cons_succ]
            refine wpAnyH_done (by kernel_rfl) ?_ _
            refine NoPanic.normal ?_
            obtain ⟨wt, hwt⟩ : ∃ wt, wt = wei hops (ae, at_, aw) := ⟨_, rfl⟩
            have hwr : R64 wt := by
              rw [hwt]
              unfold wei
              split
              · unfold R64; omega
              · exact HAO.out.2.2
            rw [← hwt]
            have hrr := HRR1.out
            rw [← hwt] at hrr
            have HK8 := hide (HKI.out.grow HG8.out)
            clear hwt HRR1
            have c78 := HK8.out.k7.cell
            have z78 := HK8.out.k7.frozen
            have c68 := HK8.out.k6.cell
            have z68 := HK8.out.k6.frozen
            have c98 := HK8.out.k9.cell
            have hw2 : wrap64 (1099511627776 - x.2) = 1099511627776 - x.2 := by unfold wrap64; omega
            have HSX := hide hsx
            clear hsx
            by_cases c1 : wt < 0
            · rw [if_pos c1] at hrr
              have HRE : Hid (R = ⟨st ++ [x], asked ++ [x.1], 90, false⟩) := by
                have := HSB3.out
                rw [← hrr, if_pos (show (90 : Int) ≠ 0 by decide)] at this
                exact this.symm
              have HT := hide (HK8.out.tell 90 false (w8.setCell ⟨b7, 2, none⟩ (I 90)) (chg_setCell (F := fun b => b = b7) _ _ (.inl rfl)))
              have c6e := HT.out.2.1.cell
              clear hrr
              go_wp2_with fail
              refine bodyPost_ret (v := .agg #[.slice sva2 (st.length + 1) svc2, .slice ava5 (asked.length + 1) avc5, I 90, .bool false]) (by simp [results, Tryd.results34, go_sem, c6e]) rfl ⟨.slice sva2 (st.length + 1) svc2, .slice ava5 (asked.length + 1) avc5, ?_, ?_⟩
              · rw [HRE.out]
              · rw [HRE.out]
                exact ⟨HT.out.2.2.1, HT.out.2.2.2, HT.out.1⟩
            · rw [if_neg c1] at hrr
              by_cases c2 : 1099511627776 - x.2 < wt
              · rw [if_pos c2] at hrr
                have c2b : wt > 1099511627776 - x.2 := c2
                have HRE : Hid (R = ⟨st ++ [x], asked ++ [x.1], 91, false⟩) := by
                  have := HSB3.out
                  rw [← hrr, if_pos (show (91 : Int) ≠ 0 by decide)] at this
                  exact this.symm
                have HT := hide (HK8.out.tell 91 false (w8.setCell ⟨b7, 2, none⟩ (I 91)) (chg_setCell (F := fun b => b = b7) _ _ (.inl rfl)))
                have c6e := HT.out.2.1.cell
                clear hrr
                go_wp2_with fail
                refine bodyPost_ret (v := .agg #[.slice sva2 (st.length + 1) svc2, .slice ava5 (asked.length + 1) avc5, I 91, .bool false]) (by simp [results, Tryd.results34, go_sem, c6e]) rfl ⟨.slice sva2 (st.length + 1) svc2, .slice ava5 (asked.length + 1) avc5, ?_, ?_⟩
                · rw [HRE.out]
                · rw [HRE.out]
                  exact ⟨HT.out.2.2.1, HT.out.2.2.2, HT.out.1⟩
              · rw [if_neg c2] at hrr
                have c2b : ¬ (wt > 1099511627776 - x.2) := c2
                have hw3 : wrap64 (x.2 + wt) = x.2 + wt := by unfold wrap64; have := HSX.out; omega
                have HRR2 := hide hrr
                have H12 := hide (And.intro c1 c2)
                have HW3 := hide hw3
                clear hrr c78 z78 c68 z68 hw3
                have hse := settled_any W.heap.size w8.drew _ (st ++ [x]) at_ (HK8.out.grow (G.drew (G.refl _))).s (by have := HNL.out; simp; omega)
                cases hany : (st ++ [x]).any (fun p => p.1 == at_) with
                | true =>
                  rw [hany] at hse
                  have HSE := hide hse
                  have hr3 := HRR2.out
                  rw [if_pos hany] at hr3
                  have HREL : Hid (∃ (k2 : Nat) (near1' : List Sn), I ((kk : Int) + 1) = I k2 ∧ k2 ≤ asl.length ∧ relaxR hops x.2 (st ++ [x]) (asl.drop k2) near1' = RR ∧ RS W w8.drew b3 b5 b6 b7 b9 (.slice rva rs.length rvc) tail true to_ (-1) hops (.slice sva2 (st.length + 1) svc2) (.slice ava5 (asked.length + 1) avc5) (.slice nva1 near1.length nvc1) (st ++ [x]) near1' (asked ++ [x.1]) x ∧ ArcX W w8.drew (.slice (some ⟨ab, aoff, none⟩) asl.length lc) asl ∧ Okn near1' ∧ near1'.length ≤ near.length + k2) :=
                    ⟨kk + 1, near1, by simp, HKL.out, hr3, HK8.out.grow (G.drew (G.refl _)), HAX.out.G HG8.out.drew, HON.out.1, by have := HON.out.2; omega⟩
                  clear hr3 HRR2 hany hse
                  go_wp2_with fail
                  refine wp_region_noPanic ?_
                  refine wp_region_held_drew (S := (fun V => (V.cell? ⟨ab, aoff + kk * 3, none⟩ = some (I ae) ∧ V.cell? ⟨ab, aoff + kk * 3 + 1, none⟩ = some (I at_) ∧ V.cell? ⟨ab, aoff + kk * 3 + 2, none⟩ = some (I aw)) ∧ (∀ j, V.cell? ⟨b7, j, none⟩ = ([.slice sva2 (st.length + 1) svc2, .slice ava5 (asked.length + 1) avc5, I 0, .bool false] : List Value)[j]?))) (by kernel_rfl) (⟨HCE.out _ (.inl HG8.out.drew), (HK8.out.grow (G.drew (G.refl _))).k7.cell⟩) (fun hHeld => ?_)
                  refine wpAnyH_take (i := 0) (v := ?_) rfl (by kernel_rfl) (by kernel_rfl) (by kernel_rfl) (fun _ _ _ h => h) (Or.inl ⟨by rfl, ?_⟩) hHeld ?_
                  rotate_left 1
                  · (intro w hSw; obtain ⟨⟨q1, q2, q3⟩, q4⟩ := hSw; go_simp; try with_reducible rfl)
                  try simp only [Act.put, List.getElem_toArray, List.getElem_cons_zero, List.setIfInBounds_toArray, List.set_cons_zero, List.set_cons_succ]
                  refine wpAnyH_take (i := 1) (v := ?_) rfl (by kernel_rfl) (by kernel_rfl) (by kernel_rfl) (fun _ _ _ h => h) (Or.inl ⟨by rfl, ?_⟩) hHeld ?_
                  rotate_left 1
                  · (intro w hSw; obtain ⟨⟨q1, q2, q3⟩, q4⟩ := hSw; go_simp; try with_reducible rfl)
                  try simp only [Act.put, List.getElem_toArray, List.getElem_cons_zero, List.getElem_cons_succ, List.setIfInBounds_toArray, List.set_cons_zero, List.set_cons_succ]
                  refine wpAnyH_take (i := 2) (v := ?_) rfl (by kernel_rfl) (by kernel_rfl) (by kernel_rfl) (fun _ _ _ h => h) (Or.inl ⟨by rfl, ?_⟩) hHeld ?_
                  rotate_left 1
                  · (intro w hSw; obtain ⟨⟨q1, q2, q3⟩, q4⟩ := hSw; go_simp; try with_reducible rfl)
                  try simp only [Act.put, List.getElem_toArray, List.getElem_cons_zero, List.getElem_cons_succ, List.setIfInBounds_toArray, List.set_cons_zero, List.set_cons_succ]
                  refine wpAnyH_take (i := 3) (v := ?_) rfl (by kernel_rfl) (by kernel_rfl) (by kernel_rfl) (fun _ _ _ h => h) (Or.inl ⟨by rfl, ?_⟩) hHeld ?_
                  rotate_left 1
                  · (intro w hSw; obtain ⟨⟨q1, q2, q3⟩, q4⟩ := hSw; go_simp; try with_reducible rfl)
                  try simp only [Act.put, List.getElem_toArray, List.getElem_cons_zero, List.getElem_cons_succ, List.setIfInBounds_toArray, List.set_cons_zero, List.set_cons_succ]
                  refine wpAnyH_take (i := 4) (v := ?_) rfl (by kernel_rfl) (by kernel_rfl) (by kernel_rfl) (fun _ _ _ h => h) (Or.inl ⟨by rfl, ?_⟩) hHeld ?_
                  rotate_left 1
                  · (intro w hSw; obtain ⟨⟨q1, q2, q3⟩, q4⟩ := hSw; go_simp; try with_reducible rfl)
                  try simp only [Act.put, List.getElem_toArray, List.getElem_cons_zero, List.getElem_cons_succ, List.setIfInBounds_toArray, List.set_cons_zero, List.set_cons_succ]
                  refine wpAnyH_take (i := 5) (v := ?_) rfl (by kernel_rfl) (by kernel_rfl) (by kernel_rfl) (fun _ _ _ h => h) (Or.inl ⟨by rfl, ?_⟩) hHeld ?_
                  rotate_left 1
                  · (intro w hSw; obtain ⟨⟨q1, q2, q3⟩, q4⟩ := hSw; go_simp; try with_reducible rfl)
                  try simp only [Act.put, List.getElem_toArray, List.getElem_cons_zero, List.getElem_cons_succ, List.setIfInBounds_toArray, List.set_cons_zero, List.set_cons_succ]
                  refine wpAnyH_take (i := 6) (v := ?_) rfl (by kernel_rfl) (by kernel_rfl) (by kernel_rfl) (fun _ _ _ h => h) (Or.inl ⟨by rfl, ?_⟩) hHeld ?_
                  rotate_left 1
                  · (intro w hSw; obtain ⟨⟨q1, q2, q3⟩, q4⟩ := hSw; go_simp; try with_reducible rfl)
                  try simp only [Act.put, List.getElem_toArray, List.getElem_cons_zero, List.getElem_cons_succ, List.setIfInBounds_toArray, List.set_cons_zero, List.set_cons_succ]
                  refine wpAnyH_ready (rs := [7]) (by kernel_rfl) (by simp) (AllReadyH.cons rfl (fun K hK => ?_) AllReadyH.nil)
                  clear hHeld
                  go_simp
                  refine HSE.out.mono ?_
                  rintro e w9 ⟨rfl, rfl⟩
                  go_wp2_with fail
                  refine hK.out _ _ (⟨HCE.out _ (.inl HG8.out.drew), (HK8.out.grow (G.drew (G.refl _))).k7.cell⟩) (fun hHeld => ?_)
                  clear hK K
                  try simp only [Act.put, List.getElem_toArray, List.getElem_cons_zero, List.getElem_cons_succ, List.setIfInBounds_toArray, List.set_cons_zero, List.set_cons_succ]
                  refine wpAnyH_take (i := 8) (v := ?_) rfl (by kernel_rfl) (by kernel_rfl) (by kernel_rfl) (fun _ _ _ h => h) (Or.inl ⟨by rfl, ?_⟩) hHeld ?_
                  rotate_left 1
                  · (intro w hSw; (try dsimp only at hSw); go_simp; try with_reducible rfl)
                  try simp only [Act.put, List.getElem_toArray, List.getElem_cons_zero, List.getElem_cons_succ, List.setIfInBounds_toArray, List.set_cons_zero, List.set_cons_succ]
                  refine wpAnyH_done (by kernel_rfl) ?_ _
                  refine NoPanic.normal ?_
                  clear HSE
                  go_wp2_with fail
                  go_roundw
                  case rel => exact HREL.out
                  case measure => simp only [RowKit.intOf]; have := HKL.out; omega
                | false =>
                  rw [hany] at hse
                  have HSE := hide hse
                  have hr3 := HRR2.out
                  rw [if_neg (by rw [hany]; simp)] at hr3
                  have HRR3 := hide hr3
                  clear hr3 HRR2 hany hse
                  go_wp2_with fail
                  refine wp_region_noPanic ?_
                  refine wp_region_held_drew (S := (fun V => (V.cell? ⟨ab, aoff + kk * 3, none⟩ = some (I ae) ∧ V.cell? ⟨ab, aoff + kk * 3 + 1, none⟩ = some (I at_) ∧ V.cell? ⟨ab, aoff + kk * 3 + 2, none⟩ = some (I aw)) ∧ (∀ j, V.cell? ⟨b7, j, none⟩ = ([.slice sva2 (st.length + 1) svc2, .slice ava5 (asked.length + 1) avc5, I 0, .bool false] : List Value)[j]?))) (by kernel_rfl) (⟨HCE.out _ (.inl HG8.out.drew), (HK8.out.grow (G.drew (G.refl _))).k7.cell⟩) (fun hHeld => ?_)
                  refine wpAnyH_take (i := 0) (v := ?_) rfl (by kernel_rfl) (by kernel_rfl) (by kernel_rfl) (fun _ _ _ h => h) (Or.inl ⟨by rfl, ?_⟩) hHeld ?_
                  rotate_left 1
                  · (intro w hSw; obtain ⟨⟨q1, q2, q3⟩, q4⟩ := hSw; go_simp; try with_reducible rfl)
                  try simp only [Act.put, List.getElem_toArray, List.getElem_cons_zero, List.setIfInBounds_toArray, List.set_cons_zero, List.set_cons_succ]
                  refine wpAnyH_take (i := 1) (v := ?_) rfl (by kernel_rfl) (by kernel_rfl) (by kernel_rfl) (fun _ _ _ h => h) (Or.inl ⟨by rfl, ?_⟩) hHeld ?_
                  rotate_left 1
                  · (intro w hSw; obtain ⟨⟨q1, q2, q3⟩, q4⟩ := hSw; go_simp; try with_reducible rfl)
                  try simp only [Act.put, List.getElem_toArray, List.getElem_cons_zero, List.getElem_cons_succ, List.setIfInBounds_toArray, List.set_cons_zero, List.set_cons_succ]
                  refine wpAnyH_take (i := 2) (v := ?_) rfl (by kernel_rfl) (by kernel_rfl) (by kernel_rfl) (fun _ _ _ h => h) (Or.inl ⟨by rfl, ?_⟩) hHeld ?_
                  rotate_left 1
                  · (intro w hSw; obtain ⟨⟨q1, q2, q3⟩, q4⟩ := hSw; go_simp; try with_reducible rfl)
                  try simp only [Act.put, List.getElem_toArray, List.getElem_cons_zero, List.getElem_cons_succ, List.setIfInBounds_toArray, List.set_cons_zero, List.set_cons_succ]
                  refine wpAnyH_take (i := 3) (v := ?_) rfl (by kernel_rfl) (by kernel_rfl) (by kernel_rfl) (fun _ _ _ h => h) (Or.inl ⟨by rfl, ?_⟩) hHeld ?_
                  rotate_left 1
                  · (intro w hSw; obtain ⟨⟨q1, q2, q3⟩, q4⟩ := hSw; go_simp; try with_reducible rfl)
                  try simp only [Act.put, List.getElem_toArray, List.getElem_cons_zero, List.getElem_cons_succ, List.setIfInBounds_toArray, List.set_cons_zero, List.set_cons_succ]
                  refine wpAnyH_take (i := 4) (v := ?_) rfl (by kernel_rfl) (by kernel_rfl) (by kernel_rfl) (fun _ _ _ h => h) (Or.inl ⟨by rfl, ?_⟩) hHeld ?_
                  rotate_left 1
                  · (intro w hSw; obtain ⟨⟨q1, q2, q3⟩, q4⟩ := hSw; go_simp; try with_reducible rfl)
                  try simp only [Act.put, List.getElem_toArray, List.getElem_cons_zero, List.getElem_cons_succ, List.setIfInBounds_toArray, List.set_cons_zero, List.set_cons_succ]
                  refine wpAnyH_take (i := 5) (v := ?_) rfl (by kernel_rfl) (by kernel_rfl) (by kernel_rfl) (fun _ _ _ h => h) (Or.inl ⟨by rfl, ?_⟩) hHeld ?_
                  rotate_left 1
                  · (intro w hSw; obtain ⟨⟨q1, q2, q3⟩, q4⟩ := hSw; go_simp; try with_reducible rfl)
                  try simp only [Act.put, List.getElem_toArray, List.getElem_cons_zero, List.getElem_cons_succ, List.setIfInBounds_toArray, List.set_cons_zero, List.set_cons_succ]
                  refine wpAnyH_take (i := 6) (v := ?_) rfl (by kernel_rfl) (by kernel_rfl) (by kernel_rfl) (fun _ _ _ h => h) (Or.inl ⟨by rfl, ?_⟩) hHeld ?_
                  rotate_left 1
                  · (intro w hSw; obtain ⟨⟨q1, q2, q3⟩, q4⟩ := hSw; go_simp; try with_reducible rfl)
                  try simp only [Act.put, List.getElem_toArray, List.getElem_cons_zero, List.getElem_cons_succ, List.setIfInBounds_toArray, List.set_cons_zero, List.set_cons_succ]
                  refine wpAnyH_ready (rs := [7]) (by kernel_rfl) (by simp) (AllReadyH.cons rfl (fun K hK => ?_) AllReadyH.nil)
                  clear hHeld
                  go_simp
                  refine HSE.out.mono ?_
                  rintro e w9 ⟨rfl, rfl⟩
                  go_wp2_with fail
                  refine hK.out _ _ (⟨HCE.out _ (.inl HG8.out.drew), (HK8.out.grow (G.drew (G.refl _))).k7.cell⟩) (fun hHeld => ?_)
                  clear hK K
                  try simp only [Act.put, List.getElem_toArray, List.getElem_cons_zero, List.getElem_cons_succ, List.setIfInBounds_toArray, List.set_cons_zero, List.set_cons_succ]
                  refine wpAnyH_take (i := 8) (v := ?_) rfl (by kernel_rfl) (by kernel_rfl) (by kernel_rfl) (fun _ _ _ h => h) (Or.inl ⟨by rfl, ?_⟩) hHeld ?_
                  rotate_left 1
                  · (intro w hSw; (try dsimp only at hSw); go_simp; try with_reducible rfl)
                  try simp only [Act.put, List.getElem_toArray, List.getElem_cons_zero, List.getElem_cons_succ, List.setIfInBounds_toArray, List.set_cons_zero, List.set_cons_succ]
                  refine wpAnyH_done (by kernel_rfl) ?_ _
                  refine NoPanic.normal ?_
                  clear HSE
                  have HK9 := hide (HK8.out.grow (G.drew (G.refl _)))
                  have HG9 := hide (HG8.out.drew)
                  generalize w8.drew = w9 at HK9 HG9 ⊢
                  have hw3 := HW3.out
                  have HSI := hide (sight_any W.heap.size w9.drew _ near1 at_ (x.2 + wt) (HK9.out.grow (G.drew (G.refl _))).n (by have := HON.out.2; have := HNL.out; omega) (HK9.out.grow (G.drew (G.refl _))).g.size)
                  clear c98 HK8 HG8
                  go_wp2_with fail
                  refine wp_region_noPanic ?_
                  refine wp_region_held_drew (S := (fun V => (V.cell? ⟨ab, aoff + kk * 3, none⟩ = some (I ae) ∧ V.cell? ⟨ab, aoff + kk * 3 + 1, none⟩ = some (I at_) ∧ V.cell? ⟨ab, aoff + kk * 3 + 2, none⟩ = some (I aw)) ∧ (∀ j, V.cell? ⟨b9, j, none⟩ = ([I x.1, I x.2] : List Value)[j]?))) (by kernel_rfl) (⟨HCE.out _ (.inl HG9.out.drew), (HK9.out.grow (G.drew (G.refl _))).k9.cell⟩) (fun hHeld => ?_)
                  refine wpAnyH_take (i := 0) (v := ?_) rfl (by kernel_rfl) (by kernel_rfl) (by kernel_rfl) (fun _ _ _ h => h) (Or.inl ⟨by rfl, ?_⟩) hHeld ?_
                  rotate_left 1
                  · (intro w hSw; obtain ⟨⟨q1, q2, q3⟩, q4⟩ := hSw; go_simp; try with_reducible rfl)
                  try simp only [Act.put, List.getElem_toArray, List.getElem_cons_zero, List.setIfInBounds_toArray, List.set_cons_zero, List.set_cons_succ]
                  refine wpAnyH_take (i := 1) (v := ?_) rfl (by kernel_rfl) (by kernel_rfl) (by kernel_rfl) (fun _ _ _ h => h) (Or.inl ⟨by rfl, ?_⟩) hHeld ?_
                  rotate_left 1
                  · (intro w hSw; obtain ⟨⟨q1, q2, q3⟩, q4⟩ := hSw; go_simp; try with_reducible rfl)
                  try simp only [Act.put, List.getElem_toArray, List.getElem_cons_zero, List.getElem_cons_succ, List.setIfInBounds_toArray, List.set_cons_zero, List.set_cons_succ]
                  refine wpAnyH_take (i := 2) (v := ?_) rfl (by kernel_rfl) (by kernel_rfl) (by kernel_rfl) (fun _ _ _ h => h) (Or.inl ⟨by rfl, ?_⟩) hHeld ?_
                  rotate_left 1
                  · (intro w hSw; obtain ⟨⟨q1, q2, q3⟩, q4⟩ := hSw; go_simp; try with_reducible rfl)
                  try simp only [Act.put, List.getElem_toArray, List.getElem_cons_zero, List.getElem_cons_succ, List.setIfInBounds_toArray, List.set_cons_zero, List.set_cons_succ]
                  refine wpAnyH_take (i := 3) (v := ?_) rfl (by kernel_rfl) (by kernel_rfl) (by kernel_rfl) (fun _ _ _ h => h) (Or.inl ⟨by rfl, ?_⟩) hHeld ?_
                  rotate_left 1
                  · (intro w hSw; obtain ⟨⟨q1, q2, q3⟩, q4⟩ := hSw; go_simp; try with_reducible rfl)
                  try simp only [Act.put, List.getElem_toArray, List.getElem_cons_zero, List.getElem_cons_succ, List.setIfInBounds_toArray, List.set_cons_zero, List.set_cons_succ]
                  refine wpAnyH_take (i := 4) (v := ?_) rfl (by kernel_rfl) (by kernel_rfl) (by kernel_rfl) (fun _ _ _ h => h) (Or.inl ⟨by rfl, ?_⟩) hHeld ?_
                  rotate_left 1
                  · (intro w hSw; obtain ⟨⟨q1, q2, q3⟩, q4⟩ := hSw; go_simp; try with_reducible rfl)
                  try simp only [Act.put, List.getElem_toArray, List.getElem_cons_zero, List.getElem_cons_succ, List.setIfInBounds_toArray, List.set_cons_zero, List.set_cons_succ]
                  refine wpAnyH_take (i := 5) (v := ?_) rfl (by kernel_rfl) (by kernel_rfl) (by kernel_rfl) (fun _ _ _ h => h) (Or.inl ⟨by rfl, ?_⟩) hHeld ?_
                  rotate_left 1
                  · (intro w hSw; obtain ⟨⟨q1, q2, q3⟩, q4⟩ := hSw; go_simp; try with_reducible rfl)
                  try simp only [Act.put, List.getElem_toArray, List.getElem_cons_zero, List.getElem_cons_succ, List.setIfInBounds_toArray, List.set_cons_zero, List.set_cons_succ]
                  refine wpAnyH_take (i := 6) (v := ?_) rfl (by kernel_rfl) (by kernel_rfl) (by kernel_rfl) (fun _ _ _ h => h) (Or.inl ⟨by rfl, ?_⟩) hHeld ?_
                  rotate_left 1
                  · (intro w hSw; obtain ⟨⟨q1, q2, q3⟩, q4⟩ := hSw; go_simp; try with_reducible rfl)
                  try simp only [Act.put, List.getElem_toArray, List.getElem_cons_zero, List.getElem_cons_succ, List.setIfInBounds_toArray, List.set_cons_zero, List.set_cons_succ]
                  refine wpAnyH_take (i := 7) (v := ?_) rfl (by kernel_rfl) (by kernel_rfl) (by kernel_rfl) (fun _ _ _ h => h) (Or.inl ⟨by rfl, ?_⟩) hHeld ?_
                  rotate_left 1
                  · (intro w hSw; obtain ⟨⟨q1, q2, q3⟩, q4⟩ := hSw; go_simp; try with_reducible rfl)
                  try simp only [Act.put, List.getElem_toArray, List.getElem_cons_zero, List.getElem_cons_succ, List.setIfInBounds_toArray, List.set_cons_zero, List.set_cons_succ]
                  refine wpAnyH_take (i := 8) (v := ?_) rfl (by kernel_rfl) (by kernel_rfl) (by kernel_rfl) (fun _ _ _ h => h) (Or.inl ⟨by rfl, ?_⟩) hHeld ?_
                  rotate_left 1
                  · (intro w hSw; obtain ⟨⟨q1, q2, q3⟩, q4⟩ := hSw; go_simp; try with_reducible rfl)
                  try simp only [Act.put, List.getElem_toArray, List.getElem_cons_zero, List.getElem_cons_succ, List.setIfInBounds_toArray, List.set_cons_zero, List.set_cons_succ]
                  refine wpAnyH_take (i := 9) (v := ?_) rfl (by kernel_rfl) (by kernel_rfl) (by kernel_rfl) (fun _ _ _ h => h) (Or.inl ⟨by rfl, ?_⟩) hHeld ?_
                  rotate_left 1
                  · (intro w hSw; obtain ⟨⟨q1, q2, q3⟩, q4⟩ := hSw; go_simp; try with_reducible rfl)
                  try simp only [Act.put, List.getElem_toArray, List.getElem_cons_zero, List.getElem_cons_succ, List.setIfInBounds_toArray, List.set_cons_zero, List.set_cons_succ]
                  refine wpAnyH_ready (rs := [10]) (by kernel_rfl) (by simp) (AllReadyH.cons rfl (fun K hK => ?_) AllReadyH.nil)
                  clear hHeld
                  go_simp
                  rw [show IntKind.i64.wrap (x.2 + wt) = x.2 + wt by rw [IntKind.wrap_i64]; have h1 := H12.out; have h2 := HSX.out; omega]
                  with_reducible refine HSI.out.mono ?_
                  rintro e w10 ⟨nv10, rfl, hsr10, hch10, hob10⟩
                  have HKA := hide ((HK9.out.grow (G.drew (G.refl _))).sight hsr10 hch10 (fun b hb => hob10.elim (fun e => .inl (by rw [← e]; exact hb)) (fun ⟨b', e, hl⟩ => .inr (by rw [e] at hb; cases hb; exact hl))))
                  have HC10 := hide hch10
                  have HC11 : Hid (Chg (fun q => (Value.slice nva1 near1.length nvc1).ownBlock = some q) wr w10) := (HG9.out.drew.chg).trans hch10
                  clear hsr10 hch10 hob10
                  go_wp2_with fail
                  refine hK.out _ _ (⟨HCE.out _ (.inr HC11.out), HKA.out.k9.cell⟩) (fun hHeld => ?_)
                  clear hK K
                  try simp only [Act.put, List.getElem_toArray, List.getElem_cons_zero, List.getElem_cons_succ, List.setIfInBounds_toArray, List.set_cons_zero, List.set_cons_succ]
                  refine wpAnyH_take (i := 11) (v := ?_) rfl (by kernel_rfl) (by kernel_rfl) (by kernel_rfl) (fun _ _ _ h => h) (Or.inl ⟨by rfl, ?_⟩) hHeld ?_
                  rotate_left 1
                  · (intro w hSw; (try dsimp only at hSw); go_simp; try with_reducible rfl)
                  try simp only [Act.put, List.getElem_toArray, List.getElem_cons_zero, List.getElem_cons_succ, List.setIfInBounds_toArray, List.set_cons_zero, List.set_cons_succ]
                  refine wpAnyH_done (by kernel_rfl) ?_ _
                  refine NoPanic.normal ?_
                  have HREL : Hid (∃ (k2 : Nat) (near1' : List Sn), I ((kk : Int) + 1) = I k2 ∧ k2 ≤ asl.length ∧ relaxR hops x.2 (st ++ [x]) (asl.drop k2) near1' = RR ∧ RS W w10 b3 b5 b6 b7 b9 (.slice rva rs.length rvc) tail true to_ (-1) hops (.slice sva2 (st.length + 1) svc2) (.slice ava5 (asked.length + 1) avc5) nv10 (st ++ [x]) near1' (asked ++ [x.1]) x ∧ ArcX W w10 (.slice (some ⟨ab, aoff, none⟩) asl.length lc) asl ∧ Okn near1' ∧ near1'.length ≤ near.length + k2) := by
                    have hl := sight_len near1 at_ (x.2 + wt)
                    have h12 := H12.out
                    refine ⟨kk + 1, sightL near1 at_ (x.2 + wt), by simp, HKL.out, HRR3.out, HKA.out, ?_, HON.out.1.sight HAO.out.2.1 (by have := HSX.out; omega), by have := HON.out.2; omega⟩
                    exact (HAX.out.G HG9.out.drew).chg HC10.out (fun b ys hb => (HK9.out.grow (G.drew (G.refl _))).n.offb hb (by decide))
                  clear HSI HC10 HRR3
                  go_wp2_with fail
                  go_roundw
                  case rel => exact HREL.out
                  case measure => simp only [RowKit.intOf]; have := HKL.out; omega
          · have hkI : ¬ ((kk : Int) < asl.length) := by omega
            have hdrop : asl.drop kk = [] := List.drop_eq_nil_of_le (by omega)
            rw [hdrop] at hrr
            have HRE0 : Hid (RR = (0, near1)) := hrr.symm
            have hall' := hall
            obtain ⟨f, hf'⟩ : ∃ f, 4096 - st.length = f + 1 := ⟨4095 - st.length, by have := HNL.out; omega⟩
            have hsb := HSB3.out
            rw [HRE0.out, if_neg (show ¬ ((0 : Int) ≠ 0) by decide), hf'] at hsb
            have HSB4 := hide hsb
            have HKI := hide kI
            have c7i := kI.k7.cell
            have z7i := kI.k7.frozen
            have c6i := kI.k6.cell
            have z6i := kI.k6.frozen
            have hlen1 : (st ++ [x]).length = st.length + 1 := by simp
            clear hrr hsb kI hax hdrop HSB3
            by_cases hn0 : near1 = []
            · subst hn0
              have HRE : Hid (R = ⟨st ++ [x], asked ++ [x.1], 0, false⟩) := by
                have := HSB4.out
                rw [srch_none] at this
                exact this.symm
              have HT := hide (HKI.out.tell 0 false wr (Chg.refl _ _))
              have c6e := HT.out.2.1.cell
              go_wp2_with fail
              refine bodyPost_ret (v := .agg #[.slice sva2 (st.length + 1) svc2, .slice ava5 (asked.length + 1) avc5, I 0, .bool false]) (by simp [results, Tryd.results34, go_sem, c6e]) rfl ⟨.slice sva2 (st.length + 1) svc2, .slice ava5 (asked.length + 1) avc5, ?_, ?_⟩
              · rw [HRE.out]
              · rw [HRE.out]
                exact ⟨HT.out.2.2.1, HT.out.2.2.2, HT.out.1⟩
            · have hn0b : ((near1.length : Int) == 0) = false := beq_eq_false_iff_ne.2 (by have := List.length_pos_iff.2 hn0; omega)
              by_cases h46 : st.length + 1 = 4096
              · have h46b : ((st.length : Int) + 1 == 4096) = true := by simp; omega
                have HRE : Hid (R = ⟨st ++ [x], asked ++ [x.1], 92, false⟩) := by
                  have := HSB4.out
                  rw [srch_full hn0 (by rw [hlen1]; exact h46)] at this
                  exact this.symm
                have HT := hide (HKI.out.tell 92 false (wr.setCell ⟨b7, 2, none⟩ (I 92)) (chg_setCell (F := fun b => b = b7) _ _ (.inl rfl)))
                have c6e := HT.out.2.1.cell
                clear h46
                go_wp2_with fail
                refine bodyPost_ret (v := .agg #[.slice sva2 (st.length + 1) svc2, .slice ava5 (asked.length + 1) avc5, I 92, .bool false]) (by simp [results, Tryd.results34, go_sem, c6e]) rfl ⟨.slice sva2 (st.length + 1) svc2, .slice ava5 (asked.length + 1) avc5, ?_, ?_⟩
                · rw [HRE.out]
                · rw [HRE.out]
                  exact ⟨HT.out.2.2.1, HT.out.2.2.2, HT.out.1⟩
              · have h46b : ((st.length : Int) + 1 == 4096) = false := beq_eq_false_iff_ne.2 (by omega)
                have hrb := HSB4.out
                rw [srch_B hn0 (by rw [hlen1]; exact h46)] at hrb
                have HRB := hide hrb
                have HNX := hide (next_any W.heap.size wr _ near1 HKI.out.n (by have := HNL.out; omega) hn0)
                obtain ⟨hkx, -⟩ := nextI_ok hn0
                obtain ⟨kx, hkxe⟩ : ∃ kx, kx = nextI near1 := ⟨_, rfl⟩
                rw [← hkxe] at HNX hkx HRB
                have H46 := hide h46
                clear hrb hkxe h46
                go_wp2_with fail
                with_reducible refine HNX.out.mono ?_
                rintro e w2n ⟨rfl, hg2⟩
                obtain ⟨y, hy⟩ : ∃ y, near1[kx]? = some y := ⟨_, List.getElem?_eq_getElem hkx⟩
                have ey : near1[kx]! = y := by simp [hy]
                rw [ey] at HRB
                have HKn := hide (HKI.out.grow hg2)
                obtain ⟨g, cap, he, hgl, y1, y2⟩ := sr_at HKn.out.n hy
                obtain ⟨rfl, rfl⟩ : nva1 = some ⟨g, 0, none⟩ ∧ nvc1 = cap := by simp at he; exact he
                have z9 := HKn.out.k9.frozen
                have c9 := HKn.out.k9.cell
                have hcap := Rw.cap HKn.out.n
                have HOY := hide (hokn y (List.mem_of_getElem? hy))
                have n9 := HKn.out.d2 g rfl
                obtain ⟨hlb, -⟩ := nm6 (Nat.le_trans hnl1 (Nat.add_le_add HNL.out.2.1 hkk)) HNL.out.1 hall
                obtain ⟨v4a, v4c, w4, v5a, v5c, w5, r4, r5a, r5b, hk5⟩ := rest_any (HKn.out.at_ y) kx hkx hlb
                have HRUN4 := hide r4
                have HREL : Hid (∃ (st near : List Sn) (asked : List Int) (x : Sn) (sv av : Value), RS W w5 b3 b5 b6 b7 b9 (.slice rva rs.length rvc) tail true to_ (-1) hops sv av (.slice v5a (kx + (near1.length - (kx + 1))) v5c) st near asked x ∧ srchB hops rs tail (some to_) (-1) (4096 - st.length) st x near asked = R ∧ st.length < 4096 ∧ Okn (x :: near) ∧ near.length ≤ st.length * 1048576 ∧ asked.length ≤ st.length) := by
                  refine ⟨st ++ [x], near1.eraseIdx kx, asked ++ [x.1], y, _, _, hk5, ?_, ?_, ?_, ?_, ?_⟩
                  · rw [← HRB.out]
                    congr 1
                    rw [hlen1]
                    omega
                  · rw [hlen1]
                    have := HNL.out
                    have := H46.out
                    omega
                  · intro p hp
                    rcases List.mem_cons.1 hp with rfl | q
                    · exact HOY.out
                    · exact hokn p (List.mem_of_mem_eraseIdx q)
                  · have h1 := HNL.out
                    have h2 := List.length_eraseIdx_le near1 kx
                    rw [hlen1]
                    omega
                  · have := HNL.out
                    rw [List.length_append, hlen1]
                    simp
                    omega
                have HMS : Hid (4096 - rcntPk4 b7 w5 < 4096 - rcntPk4 b7 wr0) := by
                  show _ < _
                  have h1 := hk5.k7.cell 0
                  simp at h1
                  have h2 : rcntPk4 b7 w5 = st.length + 1 := by simp [rcntPk4, h1]
                  rw [h2, HRC.out]
                  have := HNL.out
                  omega
                have f1 : ¬ ((nvc1 : Int) < kx) := nm1 hcap hkx
                have f2 : ¬ ((near1.length : Int) < kx + 1) := nm2 hkx
                have f3 : wrap64 ((kx : Int) + 1) = (kx : Int) + 1 := nm3 hkx (Nat.le_trans hlb (by decide))
                have f4 : ¬ ((kx : Int) < 0) := nm4 kx
                have f5 : (kx : Int) < near1.length := nm5 hkx
                clear hk5 r4 hf' hlb hokn hnl1 HRB HOY HNX hcap hy ey hn0 hn0b he HKI HKn H46 h46b c7i z7i c6i z6i hlen1 hkk hall hall' hsx hkl hkI hgl hkx hg2 hto htb haim n67 n76 HSB4 HRE0 hx64 hrl hf HA7 HK7 HRR HK HK0 HR HN HAL HOK HNL
                by_cases hce : nvc1 = kx + 1
                · have HRUN5 := hide (r5a hce)
                  subst hce
                  clear r5a r5b
                  go_wp2_with (first | (at_builtin; refine wpList_append_run rfl _ _ 84 rfl (.slice none 0 0) (.slice (some ⟨g, 0, none⟩) kx (kx + 1)) rfl rfl HRUN4.out ?_) | (at_builtin; refine wpList_append_run rfl _ _ 84 rfl (.slice v4a kx v4c) (.slice (some ⟨g, 0, none⟩) (near1.length - (kx + 1)) 0) rfl rfl HRUN5.out ?_) | fail)
                  go_roundw
                  case rel => exact HREL.out
                  case measure => (rw [← HWR0.out]; exact HMS.out)
                · have HRUN5 := hide (r5b hce)
                  clear r5a r5b
                  go_wp2_with (first | (at_builtin; refine wpList_append_run rfl _ _ 84 rfl (.slice none 0 0) (.slice (some ⟨g, 0, none⟩) kx nvc1) rfl rfl HRUN4.out ?_) | (at_builtin; refine wpList_append_run rfl _ _ 84 rfl (.slice v4a kx v4c) (.slice (some ⟨g, (kx + 1) * 2, none⟩) (near1.length - (kx + 1)) (nvc1 - (kx + 1))) rfl rfl HRUN5.out ?_) | fail)
                  go_roundw
                  case rel => exact HREL.out
                  case measure => (rw [← HWR0.out]; exact HMS.out)
      · have hcb : (code == 0) = false := beq_eq_false_iff_ne.2 hcode
        have HRE : Hid (R = ⟨st ++ [x], asked ++ [x.1], code, false⟩) := by
          show R = _
          have := HSB2.out
          rw [if_pos hcode] at this
          exact this.symm
        have HT := hide (HK7.out.tell code false (w7.setCell ⟨b7, 2, none⟩ (I code)) (chg_setCell (F := fun b => b = b7) _ _ (.inl rfl)))
        have c6e := HT.out.2.1.cell
        clear hcode
        go_wp2_with fail
        refine bodyPost_ret (v := .agg #[.slice sva2 (st.length + 1) svc2, .slice ava5 (asked.length + 1) avc5, I code, .bool false]) (by simp [results, Tryd.results34, go_sem, c6e]) rfl ⟨.slice sva2 (st.length + 1) svc2, .slice ava5 (asked.length + 1) avc5, ?_, ?_⟩
        · rw [HRE.out]
        · rw [HRE.out]
          exact ⟨HT.out.2.2.1, HT.out.2.2.2, HT.out.1⟩
end Go.Proofs.YtcbjcienjolceaaDoor
