/- value.takeString. -/
import Derived.Test.YtdiikofgilplkaaDoorDec2
namespace Go.Proofs.YtdiikofgilplkaaDoor
open Go.RowKit Go.Shelf Go.PlainAid Go.Lib

set_option maxRecDepth 100000 in
set_option maxHeartbeats 16000000 in
theorem ts_any (x : Value) (bs : List Nat) (w : World) (hx : RowB w x bs) (hl : bs.length ≤ 140737488355328) :
    Calls Tryd.prog 41 #[x] w fun e w' => ∃ xs, e = .returned (.string (strN xs)) ∧ xs.length ≤ 32 ∧ TSP bs (strN xs) ∧ G w w' := by
  obtain ⟨i0, hi, hz0, hz1, hz2⟩ := info_parts info_u8
  obtain ⟨p, cap, rfl, hcap, hc⟩ := hx
  have HC : Hid _ := hc
  clear hc
  go_enter Tryd.func41, Tryd.ntmps41
  go_wp2
  go_loopw [3, 4] (fun y k W => ∃ (i : Nat) (xs : List Nat), i ≤ bs.length ∧ k = .int .i64 i ∧ xs.length ≤ 32 ∧ TPr bs i xs ∧ Bw w W y xs) (fun _ k _ => bs.length - (RowKit.intOf k).toNat)
  case atStart => exact ⟨0, [], Nat.zero_le _, rfl, by simp, tp_start bs, Bw.nil w w (G.refl w)⟩
  case round =>
    obtain ⟨i, xs, hi', rfl, hx32, hp, hB⟩ := hrel
    have hsz := hB.g.size
    have HB : Hid (Bw w wr u3 xs) := hB
    have HP : Hid _ := hp
    obtain ⟨q3, c3, e3, _, _⟩ := hB.row
    clear hB hp
    by_cases hlt : i < bs.length
    · have hii : (i : Int) < (bs.length : Int) := by omega
      by_cases h32 : xs.length < 32
      · have h32i : (xs.length : Int) < 32 := by omega
        obtain ⟨d, hd⟩ : ∃ d, bs[i]? = some d := ⟨_, List.getElem?_eq_getElem hlt⟩
        obtain ⟨g, o, rfl, hcell⟩ := HC.out i d hd
        have hc1 : wr.cell? ⟨g, o + i, none⟩ = some (bv d) := (HB.out.g.cell (cell_ltE hcell)).trans hcell
        by_cases hd0 : d = 0
        · subst hd0
          by_cases hl1 : i + 1 < bs.length
          · have hl1i : ((i : Int) + 1 == (bs.length : Int)) = false := by simp; omega
            have hl1j : (i : Int) + 1 < (bs.length : Int) := by omega
            obtain ⟨d1, hd1⟩ : ∃ d, bs[i + 1]? = some d := ⟨_, List.getElem?_eq_getElem hl1⟩
            obtain ⟨g', o', hpp, hcell1⟩ := HC.out (i + 1) d1 hd1
            obtain ⟨rfl, rfl⟩ : g = g' ∧ o = o' := by cases hpp; exact ⟨rfl, rfl⟩
            have hc2 : wr.cell? ⟨g, o + (i + 1), none⟩ = some (bv d1) := (HB.out.g.cell (cell_ltE hcell1)).trans hcell1
            by_cases hd1z : d1 = 0
            · subst hd1z
              have HTT : Hid (TSP bs (strN xs)) := tp_break HP.out hd (by rw [hd1]; simp)
              subst e3
              clear hcell hcell1
              have hcv : ∀ W, G wr W → (convert 23 9 _).run Tryd.prog W = .ok (.string (strN xs)) W := fun W g => row_str (HB.out.row.G g)
              have hcv0 := hcv wr (G.refl wr)
              have HT : Hid (TSP bs (strN xs)) := HTT.out
              have HG : Hid (G w wr) := HB.out.g
              clear HB hcv
              go_wp2
              go_ret
              exact ⟨xs, rfl, hx32, HT.out, HG.out⟩

            · have HPP : Hid _ := tp_zero HP.out hd hd1 hd1z
              have hd1n : ((d1 : Int) == 0) = false := by simp; omega
              subst e3
              clear hcell hcell1
              go_wp2_with (at_builtin; refine wpList_append_own _ rfl _ _ 23 rfl w.heap.size 5 i0 (.int .u8 0) 1 1 Tryd.underlying23 hi hz0 hz1 hz2 rfl (by decide) _ _ _ rfl (World.ownsRow.alloc HB.out.own _) ⟨wr.heap.size, 0, none⟩ 1 1 [bv 0] rfl ?c0 ?c1 ?c2 ?c3 ?c4 ?c5 ?_)
              case c1 =>
                intro j u hj
                match j, hj with
                | 0, hj => simp at hj; subst hj; (first | (simp; done) | (simp [Addr.add]; done))
              case c2 => first | rfl | (intro u hu; simp at hu; subst hu; rfl)
              case c3 => unfold maxLen; (first | omega | (simp; omega))
              case c4 => (first | omega | (simp; omega))
              case c5 => (first | omega | (simp; omega))
              intro x2 w2 hown hgrow _
              have HB2 : Hid (Bw w w2 x2 (xs ++ [0])) := (HB.out.keep ((G.refl _).alloc _)).app [0] 1 rfl (by simpa using hown) hgrow
              clear hown hgrow HB
              go_wp2
              go_roundw
              case rel => exact ⟨i + 2, xs ++ [0], by omega, by go_num, by simp; omega, HPP.out, HB2.out⟩
              case measure => simp [RowKit.intOf]; omega

          · have HTT : Hid (TSP bs (strN xs)) := tp_break HP.out hd (by rw [List.getElem?_eq_none (by omega)]; simp)
            have hl1i : (i : Int) + 1 = (bs.length : Int) := by omega
            subst e3
            clear hcell
            have hcv : ∀ W, G wr W → (convert 23 9 _).run Tryd.prog W = .ok (.string (strN xs)) W := fun W g => row_str (HB.out.row.G g)
            have hcv0 := hcv wr (G.refl wr)
            have HT : Hid (TSP bs (strN xs)) := HTT.out
            have HG : Hid (G w wr) := HB.out.g
            clear HB hcv
            go_wp2
            go_ret
            exact ⟨xs, rfl, hx32, HT.out, HG.out⟩

        · have HPP : Hid _ := tp_other HP.out hd hd0
          have hd0n : ((d : Int) == 0) = false := by simp; omega
          subst e3
          clear hcell
          go_wp2_with (at_builtin; refine wpList_append_own _ rfl _ _ 23 rfl w.heap.size 5 i0 (.int .u8 0) 1 1 Tryd.underlying23 hi hz0 hz1 hz2 rfl (by decide) _ _ _ rfl (World.ownsRow.alloc HB.out.own _) ⟨wr.heap.size, 0, none⟩ 1 1 [bv d] rfl ?c0 ?c1 ?c2 ?c3 ?c4 ?c5 ?_)
          case c1 =>
            intro j u hj
            match j, hj with
            | 0, hj => simp at hj; subst hj; (first | (simp; done) | (simp [Addr.add]; done))
          case c2 => first | rfl | (intro u hu; simp at hu; subst hu; rfl)
          case c3 => unfold maxLen; (first | omega | (simp; omega))
          case c4 => (first | omega | (simp; omega))
          case c5 => (first | omega | (simp; omega))
          intro x2 w2 hown hgrow _
          have HB2 : Hid (Bw w w2 x2 (xs ++ [d])) := (HB.out.keep ((G.refl _).alloc _)).app [d] 1 rfl (by simpa using hown) hgrow
          clear hown hgrow HB
          go_wp2
          go_roundw
          case rel => exact ⟨i + 1, xs ++ [d], by omega, by go_num, by simp; omega, HPP.out, HB2.out⟩
          case measure => simp [RowKit.intOf]; omega

      · have h32i : ¬ (xs.length : Int) < 32 := by omega
        subst e3
        have hcv : ∀ W, G wr W → (convert 23 9 _).run Tryd.prog W = .ok (.string (strN xs)) W := fun W g => row_str (HB.out.row.G g)
        have hcv0 := hcv wr (G.refl wr)
        have HT : Hid (TSP bs (strN xs)) := tp_end HP.out (.inr (by omega))
        have HG : Hid (G w wr) := HB.out.g
        clear HB hcv
        go_wp2
        go_ret
        exact ⟨xs, rfl, hx32, HT.out, HG.out⟩

    · have hii : ¬ (i : Int) < (bs.length : Int) := by omega
      subst e3
      have hcv : ∀ W, G wr W → (convert 23 9 _).run Tryd.prog W = .ok (.string (strN xs)) W := fun W g => row_str (HB.out.row.G g)
      have hcv0 := hcv wr (G.refl wr)
      have HT : Hid (TSP bs (strN xs)) := tp_end HP.out (.inl (by omega))
      have HG : Hid (G w wr) := HB.out.g
      clear HB hcv
      go_wp2
      go_ret
      exact ⟨xs, rfl, hx32, HT.out, HG.out⟩

end Go.Proofs.YtdiikofgilplkaaDoor
