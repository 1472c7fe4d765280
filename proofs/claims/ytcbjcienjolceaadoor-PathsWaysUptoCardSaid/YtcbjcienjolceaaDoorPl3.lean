/- PathsHops: the walk. -/
import Derived.Test.YtcbjcienjolceaaDoorPk4
import Derived.Test.YtcbjcienjolceaaDoorPl1
import Derived.Test.YtcbjcienjolceaaDoorPl2
namespace Go.Proofs.YtcbjcienjolceaaDoor
open Go.RowKit

theorem srch_hitc (hops : Bool) (rs : List Nr) (tail : Bool) (aim : Option Int) (most : Int) : ∀ (f : Nat) (st near : List Sn) (asked : List Int), (srch hops rs tail aim most f st near asked).hit = true → (srch hops rs tail aim most f st near asked).code = 0 ∧ (srch hops rs tail aim most f st near asked).st ≠ []
  | 0, st, near, asked => by unfold srch; simp
  | f + 1, st, near, asked => by
    unfold srch
    split
    · simp
    · split
      · simp
      · simp only
        split
        · simp
        · split
          · split
            · simp
            · split
              · simp
              · exact srch_hitc hops rs tail aim most f _ _ _
          · exact srch_hitc hops rs tail aim most f _ _ _
theorem srch_stlen (hops : Bool) (rs : List Nr) (tail : Bool) (aim : Option Int) (most : Int) : ∀ (f : Nat) (st near : List Sn) (asked : List Int), (srch hops rs tail aim most f st near asked).st.length ≤ st.length + f
  | 0, st, near, asked => by unfold srch; simp
  | f + 1, st, near, asked => by
    unfold srch
    split
    · simp
    · split
      · simp
      · simp only
        split
        · simp
        · split
          · split
            · simp
            · split
              · simp
              · have := srch_stlen hops rs tail aim most f (st ++ [near[nextI near]!]) (relaxR hops (near[nextI near]!).2 (st ++ [near[nextI near]!]) (netOf rs tail (near[nextI near]!).1).1 (near.eraseIdx (nextI near))).2 (asked ++ [(near[nextI near]!).1])
                simp at this ⊢
                omega
          · have := srch_stlen hops rs tail aim most f (st ++ [near[nextI near]!]) (near.eraseIdx (nextI near)) asked
            simp at this ⊢
            omega
theorem st_last {st : List Sn} (h : st ≠ []) : ∃ (n : Nat) (x : Sn), st.length = n + 1 ∧ st[n]? = some x ∧ st.getLast! = x := by
  obtain ⟨l, x, rfl⟩ := List.eq_nil_or_concat st |>.resolve_left h
  exact ⟨l.length, x, by simp, by simp, by simp⟩
set_option maxRecDepth 100000 in
set_option maxHeartbeats 2000000 in
theorem rhops_any (W : World) (rv : Value) (rs : List Nr) (tail : Bool) (from_ to_ : Int) (hN : Nrs W rv rs) (hrl : rs.length ≤ 1048576) (hal : ∀ id, (netOf rs tail id).1.length ≤ 1048576) (hf : R64 from_) (R : Rs) (hR : R = srch true rs tail (some to_) (-1) 4097 [] [(from_, 0)] []) :
    Calls Tryd.prog 17 #[.agg #[rv, .bool tail], I from_, I to_] W fun e W' => ∃ av, e = .returned (.tuple #[I (if R.hit then (R.st.getLast!).2 else 0), .bool R.hit, I R.code, av]) ∧ Rw W.heap.size 2 1 W' av R.asked.length (R.asked.map I) ∧ G W W' := by
  obtain ⟨rva, rvc, hrv⟩ : ∃ a c, rv = .slice a rs.length c := by obtain ⟨a, c, e, _⟩ := hN; exact ⟨a, c, e⟩
  have g1 : G W (W.alloc (.cells #[rv, .bool tail] 25)) := (G.refl W).alloc _
  have hse := search_aim _ rv rs tail from_ to_ true (hN.G g1) hrl hal hf R hR
  have HG1 := hide g1
  have hhc := srch_hitc true rs tail (some to_) (-1) 4097 [] [(from_, 0)] []
  have hs4 := srch_stlen true rs tail (some to_) (-1) 4097 [] [(from_, 0)] []
  rw [← hR] at hhc hs4
  simp only [List.length_nil, Nat.zero_add] at hs4
  obtain ⟨nn, hnn⟩ : ∃ nn, nn = if R.hit then (R.st.getLast!).2 else 0 := ⟨_, rfl⟩
  obtain ⟨code, hcd⟩ : ∃ code, code = R.code := ⟨_, rfl⟩
  obtain ⟨hit, hht⟩ : ∃ hit, hit = R.hit := ⟨_, rfl⟩
  rw [← hnn, ← hcd, ← hht]
  rw [← hcd, ← hht] at hse
  rw [← hht] at hnn
  have HSE := hide hse
  subst hrv
  clear hN hal hR g1 hse
  cases hit with
  | true =>
    obtain ⟨hc0, hne⟩ := hhc hht.symm
    obtain ⟨n, x, hn, hx, hlast⟩ := st_last hne
    have h0 : code = 0 := by rw [hcd]; exact hc0
    subst h0
    have HNN : Hid (nn = x.2) := by rw [hnn, hlast]; rfl
    have HN := hide hn
    have HX := hide hx
    have hw : wrap64 (((n + 1 : Nat) : Int) - 1) = n := by unfold wrap64; omega
    have hw2 : wrap64 (n : Int) = n := by unfold wrap64; omega
    have hl2 : (n : Int) < (n : Int) + 1 := by omega
    clear hhc hc0 hne hlast hcd hht hnn hn hx hs4
    go_enter Tryd.func17, Tryd.ntmps17
    go_wp2_with fail
    refine HSE.out.mono ?_
    rintro e w2 ⟨sv, av, rfl, hsr, har, hg2⟩
    obtain ⟨sva, svc, rfl⟩ := Rw.form hsr
    obtain ⟨ava, avc, rfl⟩ := Rw.form har
    have hG3 : G w2 (w2.alloc (.cells #[.slice sva R.st.length svc, .slice ava R.asked.length avc, I 0, .bool true] 86)) := (G.refl w2).alloc _
    obtain ⟨g, cap, he, hgl, x1, x2⟩ := sr_at (Rw.G hsr hG3) HX.out
    obtain ⟨rfl, rfl⟩ : sva = some ⟨g, 0, none⟩ ∧ svc = cap := by simp at he; exact he
    have HAR := hide ((Rw.base har HG1.out.size).G hG3)
    have HGG := hide ((HG1.out.trans hg2).trans hG3)
    rw [HN.out] at HAR HGG x1 x2 ⊢
    clear hsr har hG3 hg2 he HSE
    go_wp2_with fail
    go_quiet (fail)
    go_wp2_with fail
    refine bodyPost_ret (v := .tuple #[I x.2, .bool true, I 0, .slice ava R.asked.length avc]) (by simp [results, Tryd.results17, go_sem]) rfl ⟨.slice ava R.asked.length avc, by rw [HNN.out], HAR.out.G (g_drewN _ _), HGG.out.trans (g_drewN _ _)⟩
  | false =>
    have HNN : Hid (nn = 0) := by rw [hnn]; rfl
    clear hhc hcd hht hnn hs4
    go_enter Tryd.func17, Tryd.ntmps17
    go_wp2_with fail
    refine HSE.out.mono ?_
    rintro e w2 ⟨sv, av, rfl, hsr, har, hg2⟩
    obtain ⟨sva, svc, rfl⟩ := Rw.form hsr
    obtain ⟨ava, avc, rfl⟩ := Rw.form har
    have hG3 : G w2 (w2.alloc (.cells #[.slice sva R.st.length svc, .slice ava R.asked.length avc, I code, .bool false] 86)) := (G.refl w2).alloc _
    have HAR := hide ((Rw.base har HG1.out.size).G hG3)
    have HGG := hide ((HG1.out.trans hg2).trans hG3)
    clear hsr har hG3 hg2 HSE
    by_cases hc0 : code = 0
    · subst hc0
      go_wp2_with fail
      go_quiet (fail)
      go_wp2_with fail
      refine bodyPost_ret (v := .tuple #[I 0, .bool false, I 0, .slice ava R.asked.length avc]) (by simp [results, Tryd.results17, go_sem]) rfl ⟨.slice ava R.asked.length avc, by rw [HNN.out], HAR.out.G (g_drewN _ _), HGG.out.trans (g_drewN _ _)⟩
    · have hcb : (code == 0) = false := beq_eq_false_iff_ne.2 hc0
      go_wp2_with fail
      go_quiet (fail)
      go_wp2_with fail
      refine bodyPost_ret (v := .tuple #[I 0, .bool false, I code, .slice ava R.asked.length avc]) (by simp [results, Tryd.results17, go_sem]) rfl ⟨.slice ava R.asked.length avc, by rw [HNN.out], HAR.out.G (g_drewN _ _), HGG.out.trans (g_drewN _ _)⟩
set_option maxRecDepth 100000 in
set_option maxHeartbeats 2000000 in
theorem hops_law (W : World) (rv : Value) (rs : List Nr) (tail : Bool) (from_ to_ : Int) (hN : Nrs W rv rs) (hM : Mk W) (hrl : rs.length ≤ 1048576) (hal : ∀ id, (netOf rs tail id).1.length ≤ 1048576) (hA : ∀ id, R64 id → ∀ a ∈ (netOf rs tail id).1, R64 a.2.1) (hf : R64 from_) :
    Calls Tryd.prog 5 #[.agg #[rv, .bool tail], I from_, I to_] W fun e W' => e = .returned (.bool true) ∧ G W W' := by
  obtain ⟨rva, rvc, hrv⟩ : ∃ a c, rv = .slice a rs.length c := by obtain ⟨a, c, e, _⟩ := hN; exact ⟨a, c, e⟩
  subst hrv
  obtain ⟨R, hR⟩ : ∃ R, R = srch true rs tail (some to_) (-1) 4097 [] [(from_, 0)] [] := ⟨_, rfl⟩
  have gA : G W (W.alloc (.cells #[.slice rva rs.length rvc, .bool tail] 25)) := (G.refl W).alloc _
  have gB : G W ((W.alloc (.cells #[.slice rva rs.length rvc, .bool tail] 25)).alloc (.cells #[.slice rva rs.length rvc, .bool tail, .slice none 0 0, .slice none 0 0] 31)) := gA.alloc _
  have hb3 := (Blk.new W [.slice rva rs.length rvc, .bool tail] 25).G ((G.refl _).alloc (.cells #[.slice rva rs.length rvc, .bool tail, .slice none 0 0, .slice none 0 0] 31))
  have hbs := Blk.new (W.alloc (.cells #[.slice rva rs.length rvc, .bool tail] 25)) [.slice rva rs.length rvc, .bool tail, .slice none 0 0, .slice none 0 0] 31
  rw [World.size_alloc] at hbs
  have HSN : Hid (Shn W ((W.alloc (.cells #[.slice rva rs.length rvc, .bool tail] 25)).alloc (.cells #[.slice rva rs.length rvc, .bool tail, .slice none 0 0, .slice none 0 0] 31)) (W.heap.size + 1) (.slice rva rs.length rvc) rs tail (.slice none 0 0) (.slice none 0 0) [] []) :=
    ⟨gB, hbs, Rw.nil _ _ _ _, Rw.nil _ _ _ _, rfl, fun i id v h => by simp at h, hN, by omega, hM⟩
  have HHO := hide (hops_any W _ (W.heap.size + 1) _ rs tail _ _ from_ to_ [] [] (by simp) HSN.out hf hrl hal R hR)
  have HB3 := hide hb3
  have HR64 := hide (srch_r64 true rs tail (some to_) (-1) hA 4097 [] [(from_, 0)] [] (fun p hp => by simp at hp; subst hp; exact hf) (fun i hi => by simp at hi))
  have HLN := hide (srch_len true rs tail (some to_) (-1) 4097 [] [(from_, 0)] [])
  have hhc := srch_hitc true rs tail (some to_) (-1) 4097 [] [(from_, 0)] []
  rw [← hR] at HR64 HLN hhc
  obtain ⟨nn, hnn⟩ : ∃ nn, nn = if R.hit then (R.st.getLast!).2 else 0 := ⟨_, rfl⟩
  obtain ⟨code, hcd⟩ : ∃ code, code = R.code := ⟨_, rfl⟩
  obtain ⟨hit, hht⟩ : ∃ hit, hit = R.hit := ⟨_, rfl⟩
  have hv : hopsV R = .tuple #[I nn, .bool hit, I code] := by
    unfold hopsV
    rw [hnn, hcd, hht]
    cases hh : R.hit with
    | true => simp [(hhc hh).1]
    | false => simp
  rw [hv] at HHO
  have HNN := hide hnn
  have HCD := hide hcd
  have HHT := hide hht
  have HR := hide hR
  have HN := hide hN
  clear hR gA gB hb3 hbs hhc hnn hcd hht hv hN hM hA
  go_enter Tryd.func5, Tryd.ntmps5
  go_wp2_with fail
  refine HHO.out.mono ?_
  rintro e w2 ⟨rfl, ⟨av2, gv2, gl2, hsn, -⟩, mp, hmv⟩
  rw [List.nil_append] at hsn
  have hg2 := hsn.g
  have c3 : ∀ o, w2.cell? ⟨W.heap.size, o, none⟩ = ([.slice rva rs.length rvc, .bool tail] : List Value)[o]? := (HB3.out.mv hmv (by decide)).cell
  have hrh := rhops_any w2 (.slice rva rs.length rvc) rs tail from_ to_ (HN.out.G hg2) hrl hal hf R HR.out
  rw [← HNN.out, ← HCD.out, ← HHT.out] at hrh
  have HRH := hide hrh
  have HS2 := hide hsn
  clear hrh hsn hg2 HHO hmv
  go_wp2_with fail
  refine HRH.out.mono ?_
  rintro e w3 ⟨qv, rfl, hrw, hg3⟩
  have HWH := hide (whole_any W w3 _ _ rs tail av2 gv2 R.asked gl2 (HS2.out.G hg3) w2.heap.size qv hrw HR64.out hrl hal (by have := HLN.out; simp at this; omega))
  have HG3 := hide (HS2.out.g.trans hg3)
  clear hrw hg3 HRH c3
  go_wp2_with fail
  refine HWH.out.mono ?_
  rintro e w4 ⟨rfl, hg4⟩
  go_wp2_with fail
  go_ret
  exact ⟨rfl, HG3.out.trans hg4⟩
end Go.Proofs.YtcbjcienjolceaaDoor
