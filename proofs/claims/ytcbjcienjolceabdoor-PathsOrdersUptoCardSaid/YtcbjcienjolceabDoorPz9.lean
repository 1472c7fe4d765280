/- Paths: the document's free; the order, as a thing of thought. -/
import Derived.Test.YtcbjcienjolceabDoorPz8
namespace Go.Proofs.YtcbjcienjolceabDoor
open Go.RowKit

/-- Has no node that is not done an arc to node k? -/
def freeB (L : List (List Nat)) (D : List Bool) (k : Nat) : Bool := (List.range L.length).all fun i => D[i]! || !(L[i]!).contains k
theorem freeB_iff {L : List (List Nat)} {D : List Bool} {k : Nat} : freeB L D k = true ↔ ∀ i, i < L.length → D[i]! = false → k ∉ L[i]! := by
  unfold freeB
  rw [List.all_eq_true]
  constructor
  · intro h i hi hd hk
    have := h i (List.mem_range.2 hi)
    rw [hd, Bool.false_or, List.contains_iff_mem.2 hk] at this
    cases this
  · intro h i hi
    cases hd : D[i]! with
    | true => rfl
    | false =>
      have h2 := h i (List.mem_range.1 hi) hd
      rw [Bool.false_or]
      cases hc : (L[i]!).contains k with
      | true => exact absurd (List.contains_iff_mem.1 hc) h2
      | false => rfl
/-- The next one: the least that is not done and free. -/
def nxtO (L : List (List Nat)) (D : List Bool) : Option Nat := (List.range L.length).find? fun k => !D[k]! && freeB L D k
/-- The order: which are taken, one after another; false: there is a ring. -/
def ordF (L : List (List Nat)) : Nat → List Bool → List Nat → List Nat × Bool
  | 0, _, O => (O, true)
  | f + 1, D, O => match nxtO L D with
    | none => (O, false)
    | some k => ordF L f (D.set k true) (O ++ [k])
set_option maxRecDepth 100000 in
set_option maxHeartbeats 4000000 in
theorem free_any (lo lo' : Nat) (W : World) (ov dv : Value) (L : List (List Nat)) (D : List Bool) (k : Nat) (hL : ∃ vs : List Value, Rw lo 73 1 W ov L.length vs ∧ ∀ (j : Nat) v l, vs[j]? = some v → L[j]? = some l → Rw lo 3 1 W v l.length (l.map fun (i : Nat) => I (i : Int))) (hD : Rw lo' 4 1 W dv D.length (D.map Value.bool)) (hl : L.length = D.length) (hb : L.length ≤ 1048576) (hbl : ∀ l ∈ L, l.length ≤ 1048576) :
    Calls Tryd.prog 36 #[ov, dv, I k] W fun e W' => e = .returned (.bool (freeB L D k)) ∧ G W W' := by
  obtain ⟨vs, hvs, hvr⟩ := hL
  obtain ⟨oa, oc, rfl⟩ := Rw.form hvs
  obtain ⟨da, dc, rfl⟩ := Rw.form hD
  have hvl : vs.length = L.length := by have := hvs.1; omega
  have HVS := hide hvs
  have HVR := hide hvr
  have HD := hide hD
  have HLD := hide hl
  have HB := hide hb
  have HBL := hide hbl
  have HVL := hide hvl
  clear hvs hvr hD hl hb hbl hvl
  go_enter Tryd.func36, Tryd.ntmps36
  go_wp2_with fail
  go_loopw [7] (fun iv wr => ∃ i : Nat, iv = I i ∧ i ≤ L.length ∧ G W wr ∧ ∀ j, j < i → D[j]! = false → k ∉ L[j]!) (fun iv _ => L.length - (RowKit.intOf iv).toNat)
  case atStart => exact ⟨0, rfl, Nat.zero_le _, G.refl _, fun j h => absurd h (by omega)⟩
  case round =>
    obtain ⟨i, rfl, hi, hg, hno⟩ := hrel
    by_cases hil : i < L.length
    · have hiI : (i : Int) < L.length := Int.ofNat_lt.2 hil
      have hiD : (i : Int) < D.length := by rw [← HLD.out]; exact hiI
      obtain ⟨d, hd⟩ : ∃ d, D[i]? = some d := ⟨_, List.getElem?_eq_getElem (by rw [← HLD.out]; exact hil)⟩
      obtain ⟨l, hl⟩ : ∃ l, L[i]? = some l := ⟨_, List.getElem?_eq_getElem hil⟩
      obtain ⟨lv, hlv⟩ : ∃ lv, vs[i]? = some lv := ⟨_, List.getElem?_eq_getElem (by rw [HVL.out]; exact hil)⟩
      have ed : D[i]! = d := by simp [hd]
      have el : L[i]! = l := by simp [hl]
      obtain ⟨g, cap, hee, -, hce, -⟩ := (Rw.G HD.out hg).cell (by rw [← HLD.out]; omega)
      obtain ⟨rfl, rfl⟩ : da = some ⟨g, 0, none⟩ ∧ dc = cap := by simp at hee; exact hee
      have cd : wr.cell? ⟨g, i, none⟩ = some (.bool d) := by rw [hce i (by rw [← HLD.out]; omega), List.getElem?_map, hd]; rfl
      obtain ⟨go, capo, heo, -, hco, -⟩ := (Rw.G HVS.out hg).cell (by omega)
      obtain ⟨rfl, rfl⟩ : oa = some ⟨go, 0, none⟩ ∧ oc = capo := by simp at heo; exact heo
      have HCO : Hid (∀ V, G W V → V.cell? ⟨go, i, none⟩ = some lv) := fun V gV => by
        obtain ⟨g2, cap2, e2, -, h2, -⟩ := (Rw.G HVS.out gV).cell (by omega)
        have : go = g2 := by simp at e2; exact e2.1
        subst this
        rw [h2 i (by omega)]
        exact hlv
      have hwi : wrap64 ((i : Int) + 1) = (i : Int) + 1 := wone5 i (Nat.le_trans (Nat.le_of_lt hil) (Nat.le_trans HB.out (by decide)))
      have HG := hide hg
      have HIL := hide hil
      have HROW := hide (HVR.out i lv l hlv hl)
      have HLN := hide (HBL.out l (List.mem_of_getElem? hl))
      have HNO := hide hno
      have HED := hide ed
      have HEL := hide el
      obtain ⟨ta', tc', rfl⟩ := Rw.form (HVR.out i lv l hlv hl)
      clear hi hg hno hil hd hl hlv ed el hee hce heo hco
      cases d with
      | true =>
        have HNX : Hid (∀ j, j < i + 1 → D[j]! = false → k ∉ L[j]!) := fun j hj hd => by
          by_cases e : j = i
          · rw [e, HED.out] at hd; cases hd
          · exact HNO.out j (by omega) hd
        go_wp2_with fail
        go_roundw
        case rel => (try rw [hwi]); exact ⟨i + 1, by simp, HIL.out, HG.out, HNX.out⟩
        case measure => (try rw [hwi]); simp only [RowKit.intOf]; exact ms5 HIL.out
      | false =>
        obtain ⟨wo, rfl⟩ : ∃ wo, wo = wr := ⟨_, rfl⟩
        go_wp2_with fail
        go_loopw [8] (fun jv w2 => ∃ j : Nat, jv = I j ∧ j ≤ l.length ∧ G wo w2 ∧ ∀ q, q < j → l[q]? ≠ some k) (fun jv _ => l.length - (RowKit.intOf jv).toNat)
        case atStart => exact ⟨0, rfl, Nat.zero_le _, G.refl _, fun q h => absurd h (by omega)⟩
        case round =>
          obtain ⟨j, rfl, hj, hg2, hnq⟩ := hrel
          have co := HCO.out _ (HG.out.trans hg2)
          by_cases hjl : j < l.length
          · have hjI : (j : Int) < l.length := Int.ofNat_lt.2 hjl
            obtain ⟨x, hx⟩ : ∃ x, l[j]? = some x := ⟨_, List.getElem?_eq_getElem hjl⟩
            obtain ⟨g3, cap3, he3, -, hc3, -⟩ := (Rw.G HROW.out (HG.out.trans hg2)).cell (by omega)
            obtain ⟨rfl, rfl⟩ : ta' = some ⟨g3, 0, none⟩ ∧ tc' = cap3 := by simp at he3; exact he3
            have cj : wr.cell? ⟨g3, j, none⟩ = some (I (x : Int)) := by rw [hc3 j (by omega), List.getElem?_map, hx]; rfl
            have hwj : wrap64 ((j : Int) + 1) = (j : Int) + 1 := wone5 j (Nat.le_trans (Nat.le_of_lt hjl) (Nat.le_trans HLN.out (by decide)))
            have HG2 := hide (HG.out.trans hg2)
            have HG2' := hide hg2
            have HJL := hide hjl
            have HNQ := hide hnq
            have HX := hide hx
            clear hj hg2 hnq hjl hx he3 hc3
            by_cases hxk : x = k
            · have hxb : ((x : Int) == (k : Int)) = true := by rw [hxk]; simp
              have HF : Hid (freeB L D k = false) := by
                show _ = _
                rw [← Bool.not_eq_true, freeB_iff]
                intro h
                refine h i HIL.out HED.out ?_
                rw [HEL.out, ← hxk]
                exact List.mem_of_getElem? HX.out
              clear hxk
              go_wp2_with fail
              go_ret
              rw [HF.out]
              exact ⟨rfl, HG2.out⟩
            · have hxb : ((x : Int) == (k : Int)) = false := beq_eq_false_iff_ne.2 (fun e => hxk (Int.ofNat_inj.1 e))
              have HNX : Hid (∀ q, q < j + 1 → l[q]? ≠ some k) := fun q hq => by
                by_cases e : q = j
                · rw [e, HX.out]
                  exact fun h => hxk (Option.some.inj h)
                · exact HNQ.out q (by omega)
              clear hxk
              go_wp2_with fail
              go_roundw
              case rel => (try rw [hwj]); exact ⟨j + 1, by simp, HJL.out, HG2'.out, HNX.out⟩
              case measure => (try rw [hwj]); simp only [RowKit.intOf]; exact ms5 HJL.out
          · have hjI : ¬ ((j : Int) < l.length) := nsl j _ hjl
            have HNX : Hid (∀ q, q < i + 1 → D[q]! = false → k ∉ L[q]!) := fun q hq hd => by
              by_cases e : q = i
              · rw [e, HEL.out]
                intro hm
                obtain ⟨z, hz, e2⟩ := List.getElem_of_mem hm
                exact hnq z (by omega) (by rw [List.getElem?_eq_getElem hz, e2])
              · exact HNO.out q (by omega) hd
            have HG2 := hide (HG.out.trans hg2)
            clear hj hg2 hnq hjl
            go_wp2_with fail
            go_roundw
            case rel => (try rw [hwi]); exact ⟨i + 1, by simp, HIL.out, HG2.out, HNX.out⟩
            case measure => (try rw [hwi]); simp only [RowKit.intOf]; exact ms5 HIL.out
    · have hiI : ¬ ((i : Int) < L.length) := nsl i _ hil
      have HF : Hid (freeB L D k = true) := freeB_iff.2 (fun j hj hd => hno j (by omega) hd)
      have HG := hide hg
      clear hi hg hno hil
      go_wp2_with fail
      go_ret
      rw [HF.out]
      exact ⟨rfl, HG.out⟩
end Go.Proofs.YtcbjcienjolceabDoor
