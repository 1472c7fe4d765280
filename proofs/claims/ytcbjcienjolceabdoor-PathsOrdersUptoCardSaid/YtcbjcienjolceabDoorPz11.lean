/- Paths: the document's Order, the walk. -/
import Derived.Test.YtcbjcienjolceabDoorPz10
namespace Go.Proofs.YtcbjcienjolceabDoor
open Go.RowKit

/-- A slice's length. -/
def slen : Value → Nat
  | .slice _ n _ => n
  | _ => 0
set_option maxRecDepth 100000 in
set_option maxHeartbeats 4000000 in
theorem rorder_any (W : World) (rv : Value) (rs : List Nr) (tail : Bool) (hN : Nrs W rv rs) (hrl : rs.length ≤ 1048576) (hal : ∀ id, (netOf rs tail id).1.length ≤ 1048576) (v : Value) (nodes : List Int) (hI : Ids W v nodes) (hnl : nodes.length ≤ 1048576) :
    Calls Tryd.prog 20 #[.agg #[rv, .bool tail], v] W (ROPost W rs tail (eachL nodes)) := by
  obtain ⟨rva, rvc, hrv⟩ : ∃ a c, rv = .slice a rs.length c := by obtain ⟨a, c, e, _⟩ := hN; exact ⟨a, c, e⟩
  subst hrv
  obtain ⟨la, lc, rfl⟩ : ∃ la lc, v = .slice la nodes.length lc := by obtain ⟨a, c, e, -⟩ := hI.at_; exact ⟨a, c, e⟩
  have g0 : G W (W.alloc (.cells #[.slice rva rs.length rvc, .bool tail] 24)) := (G.refl W).alloc _
  have c0 := (Blk.new W [.slice rva rs.length rvc, .bool tail] 24).cell
  have HGA := hide (gather_any _ _ rs tail (hN.G g0) hrl hal _ nodes (hI.G g0) hnl)
  obtain ⟨ids, hids⟩ : ∃ ids, ids = eachL nodes := ⟨_, rfl⟩
  rw [← hids] at HGA
  rw [← hids]
  have HG0 := hide g0
  have HAL := hide hal
  clear g0 hN hal hI hnl hids
  go_enter Tryd.func20, Tryd.ntmps20
  go_wp2_with fail
  refine HGA.out.mono ?_
  clear c0 HGA
  rintro e w1 ⟨hg1, ⟨h4, rfl⟩ | ⟨h4, k, id, av, hk, hc, hcd, rfl, hra⟩ | ⟨h4, hcd, iv, ov, av, rfl, hga⟩⟩
  · have HF : Hid (ROPost W rs tail ids (.returned (.tuple #[.slice none 0 0, .bool false, I 92, .slice none 0 0])) w1) := ⟨HG0.out.trans hg1, .inl ⟨h4, rfl⟩⟩
    clear hg1 h4
    go_wp2_with fail
    exact bodyPost_ret (v := .tuple #[.slice none 0 0, .bool false, I 92, .slice none 0 0]) (by simp [results, Tryd.results20, go_sem]) rfl HF.out
  · obtain ⟨aa, ac, rfl⟩ := Rw.form hra
    obtain ⟨code, hcode⟩ : ∃ code, code = (netOf rs tail id).2 := ⟨_, rfl⟩
    have HF : Hid (ROPost W rs tail ids (.returned (.tuple #[.slice none 0 0, .bool false, I code, .slice aa (ids.take (k + 1)).length ac])) w1) := ⟨HG0.out.trans hg1, .inr (.inl ⟨h4, k, id, _, hk, hc, hcd, by rw [hcode], Rw.base hra HG0.out.size⟩)⟩
    rw [← hcode] at hc ⊢
    have hcb : (code != 0) = true := by simpa using hc
    have hcb2 : (code == 0) = false := beq_eq_false_iff_ne.2 hc
    obtain ⟨n, hn⟩ : ∃ n, n = (ids.take (k + 1)).length := ⟨_, rfl⟩
    rw [← hn] at HF ⊢
    clear hg1 h4 hk hc hcd hra hcode hn
    go_wp2_with fail
    exact bodyPost_ret (v := .tuple #[.slice none 0 0, .bool false, I code, .slice aa n ac]) (by simp [results, Tryd.results20, go_sem]) rfl HF.out
  · obtain ⟨L, hL⟩ : ∃ L, L = ids.map fun id => insL (atI ids) (netOf rs tail id).1 := ⟨_, rfl⟩
    rw [← hL] at hga
    have hLl : L.length = ids.length := by rw [hL, List.length_map]
    have HBL : Hid (∀ l ∈ L, l.length ≤ 1048576) := fun l hl => by
      rw [hL] at hl
      obtain ⟨id, -, rfl⟩ := List.mem_map.1 hl
      exact Nat.le_trans (insL_len _ _) (HAL.out id)
    obtain ⟨ia, ic, rfl⟩ := Rw.form hga.ids
    obtain ⟨aa, ac, rfl⟩ := Rw.form hga.ask
    obtain ⟨vs, hvs, -⟩ := hga.arc
    obtain ⟨oa, oc, rfl⟩ := Rw.form hvs
    clear hvs
    rw [hLl]
    have hG1 : G W w1 := HG0.out.trans hg1
    obtain ⟨i0, hi, hz0, hz1, hz2⟩ := info_B
    have hmk := run_make (P := Tryd.prog) w1 93 4 i0 (.bool false) Tryd.underlying93 hi hz0 .i64 .i64 (ids.length : Int) (ids.length : Int) (by omega) (by omega) (by rw [hz2]; omega) (by omega)
    rw [hz1, made_b, Nat.mul_one, show ((ids.length : Int)).toNat = ids.length by omega] at hmk
    have hmx : (4096 : Nat) ≤ maxLen := of_decide_eq_true (by kernel_rfl)
    have hrd := rw_mb w1 W.heap.size ids.length (by omega) hG1.size
    have hg2 : G w1 (w1.alloc (.cells (List.replicate ids.length (Value.bool false)).toArray 4)) := (G.refl w1).alloc _
    have HMK := hide hmk
    obtain ⟨R, hR⟩ : ∃ R, R = ordF L ids.length (List.replicate ids.length false) [] := ⟨_, rfl⟩
    have HRO : Hid (Ro2 W.heap.size (w1.alloc (.cells (List.replicate ids.length (Value.bool false)).toArray 4)) (.slice ia ids.length ic) (.slice aa ids.length ac) (.slice oa ids.length oc) (.slice (some ⟨w1.heap.size, 0, none⟩) (List.replicate ids.length false).length ids.length) (.slice none 0 0) ids L (List.replicate ids.length false) []) := by
      rw [hLl] at hga
      have hga' : Ga W.heap.size w1 (.slice ia ids.length ic) (.slice aa ids.length ac) (.slice oa ids.length oc) ids ids L := by
        obtain ⟨vs, h1, h2⟩ := hga.arc
        exact ⟨Rw.base hga.ids HG0.out.size, Rw.base hga.ask HG0.out.size, hga.dis, ⟨vs, Rw.base h1 HG0.out.size, fun j v l a b => Rw.base (h2 j v l a b) HG0.out.size⟩⟩
      exact ⟨hga'.G hg2, by rw [List.length_replicate]; exact hrd, Rw.nil _ _ _ _, fun b hb => by simp [Value.ownBlock] at hb⟩
    have HG2 := hide (hG1.trans hg2)
    have HLL := hide hLl
    have HLE := hide hL
    have HR := hide hR
    have H4 := hide h4
    have HCD := hide hcd
    generalize w1.alloc (.cells (List.replicate ids.length (Value.bool false)).toArray 4) = w2 at HMK HRO HG2
    obtain ⟨db, hdb⟩ : ∃ db, db = w1.heap.size := ⟨_, rfl⟩
    rw [← hdb] at HMK HRO
    clear hg1 h4 hcd hga hLl hL hG1 hi hz0 hz1 hz2 hmk hmx hrd hg2 hR hdb
    go_wp2_with fail
    rw [HMK.out]
    clear HMK
    go_wp2_with fail
    go_loopw [13] (fun xv wr => ∃ (O : List Nat) (D : List Bool) (xv' : Value), xv = xv' ∧ O.length ≤ ids.length ∧ D.length = ids.length ∧ ordF L (ids.length - O.length) D O = R ∧ Ro2 W.heap.size wr (.slice ia ids.length ic) (.slice aa ids.length ac) (.slice oa ids.length oc) (.slice (some ⟨db, 0, none⟩) D.length ids.length) xv' ids L D O ∧ G W wr) (fun xv _ => ids.length - slen xv)
    case atStart => exact ⟨[], _, _, rfl, Nat.zero_le _, List.length_replicate, HR.out.symm, HRO.out, HG2.out⟩
    case round =>
      obtain ⟨O, D, xv, rfl, hO, hDl, hord, hro, hg⟩ := hrel
      obtain ⟨xa, xc, rfl⟩ := Rw.form hro.x
      rw [hDl] at hro
      have HDL := hide hDl
      by_cases hOl : O.length < ids.length
      · have hOI : (O.length : Int) < ids.length := Int.ofNat_lt.2 hOl
        have HRO3 := hide hro
        have HG3 := hide hg
        have HOL := hide hOl
        obtain ⟨f, hf⟩ : ∃ f, ids.length - O.length = f + 1 := ⟨ids.length - O.length - 1, by omega⟩
        rw [hf] at hord
        have HORD := hide hord
        have HF := hide hf
        obtain ⟨wo, rfl⟩ : ∃ wo, wo = wr := ⟨_, rfl⟩
        clear hO hDl hord hro hg hOl hf
        go_wp2_with fail
        go_loopw [14] (fun kv w3 => ∃ k : Nat, kv = I k ∧ k ≤ ids.length ∧ G wo w3 ∧ ∀ j, j < k → D[j]! = true ∨ freeB L D j = false) (fun kv _ => ids.length - (RowKit.intOf kv).toNat)
        case atStart => exact ⟨0, rfl, Nat.zero_le _, G.refl _, fun j h => absurd h (by omega)⟩
        case round =>
          obtain ⟨k, rfl, hk, hg3, hno⟩ := hrel
          have hro3 := HRO3.out.G hg3
          by_cases hkl : k < ids.length
          · have hkI : (k : Int) < ids.length := Int.ofNat_lt.2 hkl
            have hkd : decide ((k : Int) < ids.length) = true := decide_eq_true hkI
            obtain ⟨d, hd⟩ : ∃ d, D[k]? = some d := ⟨_, List.getElem?_eq_getElem (by rw [HDL.out]; exact hkl)⟩
            have ed : D[k]! = d := by simp [hd]
            have hwk : wrap64 ((k : Int) + 1) = (k : Int) + 1 := wone5 k (Nat.le_trans (Nat.le_of_lt hkl) (Nat.le_trans H4.out (by decide)))
            obtain ⟨g, cap, hee, -, hce, -⟩ := hro3.d.cell (by rw [HDL.out]; omega)
            have eg : db = g := by simp at hee; exact hee.1
            subst eg
            have cd : wr.cell? ⟨db, k, none⟩ = some (.bool d) := by rw [hce k (by rw [HDL.out]; omega), List.getElem?_map, hd]; rfl
            have HKL := hide hkl
            have HG4 := hide hg3
            have HNO := hide hno
            have HED := hide ed
            have HFR := hide (free_any W.heap.size W.heap.size wr (.slice oa ids.length oc) (.slice (some ⟨db, 0, none⟩) ids.length ids.length) L D k hro3.ga.arc hro3.d (by rw [HLL.out, HDL.out]) (by rw [HLL.out]; exact Nat.le_trans H4.out (by decide)) HBL.out)
            clear hk hg3 hno hro3 hkl hd ed hee hce
            cases d with
            | true =>
              have HNX : Hid (∀ j, j < k + 1 → D[j]! = true ∨ freeB L D j = false) := fun j hj => by
                by_cases e : j = k
                · rw [e]; exact .inl HED.out
                · exact HNO.out j (by omega)
              go_wp2_with fail
              go_roundw
              case rel => (try rw [hwk]); exact ⟨k + 1, by simp, HKL.out, HG4.out, HNX.out⟩
              case measure => (try rw [hwk]); simp only [RowKit.intOf]; exact ms5 HKL.out
            | false =>
              go_wp2_with fail
              refine HFR.out.mono ?_
              rintro e w4 ⟨rfl, hg4⟩
              have HG5 := hide (HG4.out.trans hg4)
              clear hg4 HFR cd
              cases hfb : freeB L D k with
              | false =>
                have HNX : Hid (∀ j, j < k + 1 → D[j]! = true ∨ freeB L D j = false) := fun j hj => by
                  by_cases e : j = k
                  · rw [e]; exact .inr hfb
                  · exact HNO.out j (by omega)
                clear hfb
                go_wp2_with fail
                go_roundw
                case rel => (try rw [hwk]); exact ⟨k + 1, by simp, HKL.out, HG5.out, HNX.out⟩
                case measure => (try rw [hwk]); simp only [RowKit.intOf]; exact ms5 HKL.out
              | true =>
                have hnx : nxtO L D = some k := nxtO_some (by rw [HLL.out]; exact HKL.out) HED.out hfb HNO.out
                have HORD2 : Hid (ordF L f (D.set k true) (O ++ [k]) = R) := by
                  have := HORD.out
                  rw [ordF_some hnx] at this
                  exact this
                have hkn : ((k : Int) == (ids.length : Int)) = false := beq_eq_false_iff_ne.2 (fun e => by have := HKL.out; omega)
                have hro4 := HRO3.out.G HG5.out
                obtain ⟨id, hid⟩ : ∃ id, ids[k]? = some id := ⟨_, List.getElem?_eq_getElem HKL.out⟩
                obtain ⟨ys, hy⟩ := (Rw.own hro4.d (b := db) rfl).2.2
                have cdd := hy.cell
                have zdd := hy.frozen
                obtain ⟨u, hu⟩ : ∃ u, w4.cell? ⟨db, k, none⟩ = some u := by
                  obtain ⟨g, cap, hee, -, hce, -⟩ := hro4.d.cell (by rw [HDL.out]; have := HKL.out; omega)
                  have eg : db = g := by simp at hee; exact hee.1
                  subst eg
                  exact ⟨_, (hce k (by rw [HDL.out]; have := HKL.out; omega)).trans (by rw [List.getElem?_map, List.getElem?_eq_getElem (by rw [HDL.out]; exact HKL.out)]; rfl)⟩
                have hmk : Ro2 W.heap.size (w4.setCell ⟨db, k, none⟩ (.bool true)) (.slice ia ids.length ic) (.slice aa ids.length ac) (.slice oa ids.length oc) (.slice (some ⟨db, 0, none⟩) ids.length ids.length) (.slice xa O.length xc) ids L (D.set k true) O := by
                  have h1 := hro4
                  rw [← HDL.out] at h1
                  have h2 := Ro2.mark (g := db) (cap := ids.length) (D := D) (by rw [HDL.out]; rw [HDL.out] at h1; exact hro4) (k := k) (by rw [HDL.out]; exact HKL.out)
                  rw [List.length_set, HDL.out] at h2
                  exact h2
                have hGW5 : G W (w4.setCell ⟨db, k, none⟩ (.bool true)) := (HG3.out.trans HG5.out).setCell (p := ⟨db, k, none⟩) (Rw.own hro4.d (b := db) rfl).1 _
                obtain ⟨v7, w7, hrun7, hro7, hch7⟩ := hmk.tell hGW5.size k id hid (by have := HOL.out; have := H4.out; omega)
                rw [World.size_setCell] at hrun7
                obtain ⟨g6, cap6, he6, -, hc6, -⟩ := hmk.ga.ids.cell (by have := HKL.out; omega)
                obtain ⟨rfl, rfl⟩ : ia = some ⟨g6, 0, none⟩ ∧ ic = cap6 := by simp at he6; exact he6
                have c6 : (w4.setCell ⟨db, k, none⟩ (.bool true)).cell? ⟨g6, k, none⟩ = some (I id) := by rw [hc6 k (by have := HKL.out; omega), List.getElem?_map, hid]; rfl
                have hgW7 : G W w7 := ((hGW5.chg (F := fun _ => False)).more hch7 (fun b hb e => by omega)).G (fun _ q => q.elim)
                obtain ⟨xa7, xc7, rfl⟩ := Rw.form hro7.x
                have HRUN := hide hrun7
                have HREL : Hid (∃ (O' : List Nat) (D' : List Bool) (xv' : Value), (Value.slice xa7 (O ++ [k]).length xc7) = xv' ∧ O'.length ≤ ids.length ∧ D'.length = ids.length ∧ ordF L (ids.length - O'.length) D' O' = R ∧ Ro2 W.heap.size w7 (.slice (some ⟨g6, 0, none⟩) ids.length ic) (.slice aa ids.length ac) (.slice oa ids.length oc) (.slice (some ⟨db, 0, none⟩) D'.length ids.length) xv' ids L D' O' ∧ G W w7) := by
                  refine ⟨O ++ [k], D.set k true, _, rfl, ?_, by rw [List.length_set]; exact HDL.out, ?_, ?_, hgW7⟩
                  · rw [List.length_append]; exact HOL.out
                  · rw [List.length_append, show ids.length - (O.length + [k].length) = f by have := HF.out; simp; omega]
                    exact HORD2.out
                  · rw [List.length_set, HDL.out]
                    exact hro7
                have HMS : Hid (ids.length - (O ++ [k]).length < ids.length - O.length) := by
                  show _ < _
                  rw [List.length_append]
                  have := HOL.out
                  simp
                  omega
                obtain ⟨m7, hm7⟩ : ∃ m7, m7 = (O ++ [k]).length := ⟨_, rfl⟩
                rw [← hm7] at HREL HMS HRUN
                clear hfb hnx hro4 hid cdd hy hmk hGW5 hrun7 hro7 hch7 he6 hc6 hgW7 hm7
                go_wp2_with (first | (at_builtin; refine wpList_append_run rfl _ _ 25 rfl (.slice xa O.length xc) (.slice (some ⟨w4.heap.size, 0, none⟩) 1 1) rfl rfl HRUN.out ?_) | fail)
                go_roundw
                case rel => exact HREL.out
                case measure => exact HMS.out
          · obtain rfl : k = ids.length := Nat.le_antisymm hk (Nat.le_of_not_lt hkl)
            have hnx : nxtO L D = none := nxtO_none (fun j hj => hno j (by rw [← HLL.out]; exact hj))
            have hord := HORD.out
            rw [ordF_none hnx] at hord
            have HFI : Hid (ROPost W rs tail ids (.returned (.tuple #[.slice none 0 0, .bool false, I 0, .slice aa ids.length ac])) wr) := ⟨HG3.out.trans hg3, .inr (.inr ⟨H4.out, HCD.out, O, false, _, _, by rw [← HLE.out, ← HR.out, ← hord], hro3.ga.ask, rfl, fun q => (by cases q), fun _ => rfl⟩)⟩
            clear hk hg3 hno hro3 hkl hnx hord
            go_wp2_with fail
            exact bodyPost_ret (v := .tuple #[.slice none 0 0, .bool false, I 0, .slice aa ids.length ac]) (by simp [results, Tryd.results20, go_sem]) rfl HFI.out
      · have hOI : ¬ ((O.length : Int) < ids.length) := nsl _ _ hOl
        have he : O.length = ids.length := Nat.le_antisymm hO (Nat.le_of_not_lt hOl)
        rw [he, Nat.sub_self, ordF] at hord
        have HFI : Hid (ROPost W rs tail ids (.returned (.tuple #[.slice xa O.length xc, .bool true, I 0, .slice aa ids.length ac])) wr) := ⟨hg, .inr (.inr ⟨H4.out, HCD.out, O, true, _, _, by rw [← HLE.out, ← HR.out, ← hord], hro.ga.ask, rfl, fun _ => hro.x, fun q => by cases q⟩)⟩
        clear hO hDl hord hro hg hOl he
        go_wp2_with fail
        exact bodyPost_ret (v := .tuple #[.slice xa O.length xc, .bool true, I 0, .slice aa ids.length ac]) (by simp [results, Tryd.results20, go_sem]) rfl HFI.out
end Go.Proofs.YtcbjcienjolceabDoor
