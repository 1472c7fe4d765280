/- Paths: parts. -/
import Derived.Test.YtemkilffagjmcaaDoorPz21
namespace Go.Proofs.YtemkilffagjmcaaDoor
open Go.RowKit

/-- The arcs that are gone through: those of the first i, and the first j of i's. -/
def AR (L : List (List Nat)) (i j p q : Nat) : Prop := (p < i ∧ q ∈ L[p]!) ∨ (p = i ∧ q ∈ (L[i]!).take j)
theorem AR.zero (L : List (List Nat)) : AR L 0 0 = fun _ _ => False := by
  funext p q
  simp [AR]
theorem AR.row {L : List (List Nat)} {i : Nat} : AR L i (L[i]!).length = AR L (i + 1) 0 := by
  funext p q
  simp only [AR, List.take_length, List.take_zero, List.not_mem_nil, and_false, or_false, eq_iff_iff]
  constructor
  · rintro (⟨h1, h2⟩ | ⟨rfl, h2⟩)
    · exact ⟨by omega, h2⟩
    · exact ⟨by omega, h2⟩
  · rintro ⟨h1, h2⟩
    by_cases e : p = i
    · exact .inr ⟨e, e ▸ h2⟩
    · exact .inl ⟨by omega, h2⟩
theorem AR.one {L : List (List Nat)} {i j m : Nat} (h : (L[i]!)[j]? = some m) : AR L i (j + 1) = fun p q => AR L i j p q ∨ (p = i ∧ q = m) := by
  funext p q
  have e : (L[i]!).take (j + 1) = (L[i]!).take j ++ [m] := by rw [List.take_add_one, h]; rfl
  simp only [AR, e, List.mem_append, List.mem_singleton, eq_iff_iff]
  constructor
  · rintro (h1 | ⟨h1, h2 | h2⟩)
    · exact .inl (.inl h1)
    · exact .inl (.inr ⟨h1, h2⟩)
    · exact .inr ⟨h1, h2⟩
  · rintro ((h1 | ⟨h1, h2⟩) | ⟨h1, h2⟩)
    · exact .inl h1
    · exact .inr ⟨h1, .inl h2⟩
    · exact .inr ⟨h1, .inr h2⟩
theorem AR.in_ {L : List (List Nat)} {n : Nat} (hn : L.length = n) (hin : ∀ l ∈ L, ∀ m ∈ l, m < n) {i : Nat} (j : Nat) (hi : i < n ∨ (i ≤ n ∧ j = 0)) : ∀ p q, AR L i j p q → p < n ∧ q < n := fun p q h => by
  have key : ∀ p, p < n → ∀ q ∈ L[p]!, q < n := fun p hp q hq => by
    rw [Hp.get_of (by omega)] at hq
    exact hin _ (List.getElem_mem (by omega)) q hq
  rcases h with ⟨h1, h2⟩ | ⟨rfl, h2⟩
  · exact ⟨by omega, key p (by omega) q h2⟩
  · rcases hi with hi | ⟨_, rfl⟩
    · exact ⟨hi, key p hi q (List.mem_of_mem_take h2)⟩
    · simp at h2
/-- What parts has of its own. -/
structure Pf (W w : World) (fg n : Nat) (F : List Nat) : Prop where
  g : G W w
  row : Rw W.heap.size 3 1 w (.slice (some ⟨fg, 0, none⟩) n n) n (F.map fun (i : Nat) => I (i : Int))
  len : F.length = n
theorem Pf.G {W w w' : World} {fg n : Nat} {F : List Nat} (h : Pf W w fg n F) (g : Go.Proofs.YtemkilffagjmcaaDoor.G w w') : Pf W w' fg n F := ⟨h.g.trans g, Rw.G h.row g, h.len⟩
theorem Pf.set {W w : World} {fg n : Nat} {F : List Nat} (h : Pf W w fg n F) {m : Nat} (hm : m < n) (x : Nat) : Pf W (w.setCell ⟨fg, m, none⟩ (I (x : Int))) fg n (F.set m x) := by
  refine ⟨h.g.setCell (Rw.own h.row (b := fg) rfl).1 _, ?_, by rw [List.length_set]; exact h.len⟩
  rw [List.map_set]
  exact Rw.set h.row m (by omega) (I (x : Int))
theorem Pf.chg {W w w' : World} {fg n : Nat} {F F' : List Nat} (h : Pf W w fg n F) (c : Chg (fun b => b = fg) w w') (hr : Rw W.heap.size 3 1 w' (.slice (some ⟨fg, 0, none⟩) n n) n (F'.map fun (i : Nat) => I (i : Int))) (hl : F'.length = n) : Pf W w' fg n F' := ⟨h.g.trans' c (fun b e => by rw [e]; exact (Rw.own h.row (b := fg) rfl).1), hr, hl⟩
/-- What parts tells. -/
def PtPost (W : World) (ids : List Int) (L : List (List Nat)) (e : Ending) (W' : World) : Prop := ∃ (fg : Nat) (F : List Nat), e = .returned (.slice (some ⟨fg, 0, none⟩) ids.length ids.length) ∧ G W W' ∧ W.heap.size ≤ fg ∧ Rw W.heap.size 3 1 W' (.slice (some ⟨fg, 0, none⟩) ids.length ids.length) ids.length (F.map fun (i : Nat) => I (i : Int)) ∧ F.length = ids.length ∧ ∀ i, i < ids.length → Jn (AR L L.length 0) i F[i]! ∧ ∀ j, Jn (AR L L.length 0) i j → F[i]! ≤ j
set_option maxRecDepth 100000 in
set_option maxHeartbeats 4000000 in
theorem parts_any (W : World) (lo pb mb : Nat) (iv ov : Value) (ids : List Int) (gm : Int → Option Value) (L : List (List Nat)) (hpc : Pc lo W pb mb iv ov ids gm L) (hn : L.length = ids.length) (hb : ids.length ≤ 4096) (hLl : ∀ l ∈ L, l.length ≤ 1048576) (hin : ∀ l ∈ L, ∀ m ∈ l, m < ids.length) :
    Calls Tryd.prog 22 #[ptr pb] W (PtPost W ids L) := by
  obtain ⟨ia, ic, rfl⟩ := Rw.form hpc.ids
  obtain ⟨vs, hvs, hvr⟩ := hpc.arc
  obtain ⟨oa, oc, rfl⟩ := Rw.form hvs
  obtain ⟨i0, hi, hz0, hz1, hz2⟩ := info_N
  have hmx : (4096 : Nat) ≤ maxLen := of_decide_eq_true (by kernel_rfl)
  have hmk := run_make (P := Tryd.prog) W 62 3 i0 (I 0) Tryd.underlying62 hi hz0 .i64 .i64 (ids.length : Int) (ids.length : Int) (by omega) (by omega) (by rw [hz2]; omega) (by omega)
  rw [hz1, made_i, Nat.mul_one, show ((ids.length : Int)).toNat = ids.length by omega] at hmk
  have hG1 : G W (W.alloc (.cells (List.replicate ids.length (I 0)).toArray 3)) := (G.refl W).alloc _
  have hR1 := rw_mw W W.heap.size ids.length (by omega) (Nat.le_refl _)
  have hvl : vs.length = L.length := by have := hvs.1; omega
  have HVS := hide hvs
  have HVR := hide hvr
  have HVL := hide hvl
  have cp := hpc.blk.cell
  have cp1 := (hpc.blk.G hG1).cell
  have HMK := hide hmk
  have HR1 := hide hR1
  have HG1 := hide hG1
  have HPC := hide hpc
  have HN := hide hn
  have HB := hide hb
  have HLL := hide hLl
  have HIN := hide hin
  clear hmk hG1 hR1 hpc hi hz0 hz1 hz2 hn hb hLl hin hmx hvs hvr hvl
  generalize (W.alloc (.cells (List.replicate ids.length (I 0)).toArray 3)) = w1 at *
  obtain ⟨fg, hfg⟩ : ∃ fg, fg = W.heap.size := ⟨_, rfl⟩
  have HFG := hide hfg
  rw [← hfg] at HMK
  have HR2 : Hid (Rw W.heap.size 3 1 w1 (.slice (some ⟨fg, 0, none⟩) ids.length ids.length) ids.length ((List.replicate ids.length 0).map fun (i : Nat) => I (i : Int))) := by
    rw [hfg]
    exact HR1.out
  clear hfg HR1
  go_enter Tryd.func22, Tryd.ntmps22
  go_wp2_with fail
  rw [HMK.out]
  clear cp HMK
  go_wp2_with fail
  have HPF : Hid (Pf W w1 fg ids.length (List.replicate ids.length 0)) := ⟨HG1.out, HR2.out, List.length_replicate⟩
  clear HR2 HG1 cp1
  go_loopw [20] (fun kv wr => ∃ (i : Nat) (F : List Nat), kv = I i ∧ i ≤ ids.length ∧ Pf W wr fg ids.length F ∧ ∀ m, m < i → F[m]! = m) (fun kv _ => ids.length - (RowKit.intOf kv).toNat)
  case atStart => exact ⟨0, _, rfl, Nat.zero_le _, HPF.out, fun m hm => absurd hm (by omega)⟩
  case round =>
    obtain ⟨i, F, rfl, hi, hpf, hF⟩ := hrel
    by_cases hil : i < ids.length
    · have hiI : (i : Int) < ids.length := Int.ofNat_lt.2 hil
      obtain ⟨ci, zi⟩ := hpf.row.atN hpf.len hil
      have hwi : wrap64 ((i : Int) + 1) = (i : Int) + 1 := wone5 i (by have := HB.out; omega)
      have HP2 := hide (hpf.set hil i)
      have HF2 : Hid (∀ m, m < i + 1 → (F.set i i)[m]! = m) := fun m hm => by
        rw [getW_set (by rw [hpf.len]; exact hil)]
        split
        · rename_i e; exact e.symm
        · exact hF m (by omega)
      have HIL := hide hil
      clear hi hpf hF hil
      go_wp2_with fail
      go_roundw
      case rel => (try rw [hwi]); exact ⟨i + 1, _, by simp, HIL.out, HP2.out, HF2.out⟩
      case measure => (try rw [hwi]); simp only [RowKit.intOf]; exact ms5 HIL.out
    · have hiI : ¬ ((i : Int) < ids.length) := fun h => hil (Int.ofNat_lt.1 h)
      obtain rfl : i = ids.length := Nat.le_antisymm hi (Nat.le_of_not_lt hil)
      have HUF : Hid (Uf (AR L 0 0) ids.length F) := by
        rw [AR.zero]
        exact Uf.start _ F hpf.len hF
      have HP2 := hide hpf
      have cp2 := (HPC.out.blk.G hpf.g).cell
      clear hi hpf hF hil HPF
      go_wp2_with fail
      clear cp2
      go_loopw [33] (fun kv wr => ∃ (i : Nat) (F : List Nat), kv = I i ∧ i ≤ L.length ∧ Pf W wr fg ids.length F ∧ Uf (AR L i 0) ids.length F) (fun kv _ => L.length - (RowKit.intOf kv).toNat)
      case atStart => exact ⟨0, _, rfl, Nat.zero_le _, HP2.out, HUF.out⟩
      case round =>
        obtain ⟨i, F2, rfl, hi, hpf, huf⟩ := hrel
        by_cases hil : i < L.length
        · have hiI : (i : Int) < L.length := Int.ofNat_lt.2 hil
          obtain ⟨l, hl⟩ : ∃ l, L[i]? = some l := ⟨_, List.getElem?_eq_getElem hil⟩
          obtain ⟨lv, hlv⟩ : ∃ lv, vs[i]? = some lv := ⟨_, List.getElem?_eq_getElem (by rw [HVL.out]; exact hil)⟩
          obtain ⟨go, capo, heo, -, hco, -⟩ := (Rw.G HVS.out hpf.g).cell (by omega)
          obtain ⟨rfl, rfl⟩ : oa = some ⟨go, 0, none⟩ ∧ oc = capo := by simp at heo; exact heo
          have co : wr.cell? ⟨go, i, none⟩ = some lv := by rw [hco i (by omega)]; exact hlv
          have hwi : wrap64 ((i : Int) + 1) = (i : Int) + 1 := wone5 i (by have := HB.out; have := HN.out; omega)
          have HROW := hide (HVR.out i lv l hlv hl)
          have HLN := hide (HLL.out l (List.mem_of_getElem? hl))
          have HLI := hide (HIN.out l (List.mem_of_getElem? hl))
          have HEL : Hid (L[i]! = l) := by show _ = _; simp [hl]
          have HIL := hide hil
          have HIN2 : Hid (i < ids.length) := by show _ < _; rw [← HN.out]; exact hil
          have HP3 := hide hpf
          have HU3 := hide huf
          obtain ⟨ta, tc, rfl⟩ := Rw.form (HVR.out i lv l hlv hl)
          clear hi hpf huf hil hl hlv heo hco
          go_wp2_with fail
          go_loopw [40] (fun jv w2 => ∃ (j : Nat) (F : List Nat), jv = I j ∧ j ≤ l.length ∧ Pf W w2 fg ids.length F ∧ Uf (AR L i j) ids.length F) (fun jv _ => l.length - (RowKit.intOf jv).toNat)
          case atStart => exact ⟨0, _, rfl, Nat.zero_le _, HP3.out, HU3.out⟩
          case round =>
            obtain ⟨j, F4, rfl, hj, hpf4, huf4⟩ := hrel
            by_cases hjl : j < l.length
            · have hjI : (j : Int) < l.length := Int.ofNat_lt.2 hjl
              obtain ⟨k, hk⟩ : ∃ k, l[j]? = some k := ⟨_, List.getElem?_eq_getElem hjl⟩
              have hkn : k < ids.length := HLI.out k (List.mem_of_getElem? hk)
              obtain ⟨gt, capt, het, -, hct, -⟩ := (Rw.G HROW.out hpf4.g).cell (by omega)
              obtain ⟨rfl, rfl⟩ : ta = some ⟨gt, 0, none⟩ ∧ tc = capt := by simp at het; exact het
              have ct : wr.cell? ⟨gt, j, none⟩ = some (I (k : Int)) := by rw [hct j (by omega), List.getElem?_map, hk]; rfl
              have hwj : wrap64 ((j : Int) + 1) = (j : Int) + 1 := wone5 j (by have := HLN.out; omega)
              have HARI : Hid (∀ p q, AR L i j p q → p < ids.length ∧ q < ids.length) := AR.in_ HN.out HIN.out j (.inl HIN2.out)
              obtain ⟨a, ha⟩ := Rt.ex huf4.le i HIN2.out
              obtain ⟨b, hb⟩ := Rt.ex huf4.le k hkn
              have HHA := hide (head_any W.heap.size fg ids.length ids.length wr (AR L i j) HARI.out F4 huf4 hpf4.row i a HIN2.out ha)
              have HA4 := hide ha
              have HB4 := hide hb
              have HP4 := hide hpf4
              have HU4 := hide huf4
              have HJL := hide hjl
              have HK := hide hk
              have HKN := hide hkn
              clear hj hpf4 huf4 hjl hk hkn het hct ha hb
              go_wp2_with fail
              refine HHA.out.mono ?_
              rintro e w5 ⟨F5, rfl, huf5, hif5, hrw5, hch5⟩
              have HP5 := hide (HP4.out.chg hch5 hrw5 huf5.len)
              have HHB := hide (head_any W.heap.size fg ids.length ids.length w5 (AR L i j) HARI.out F5 huf5 hrw5 k b HKN.out ((hif5 k b HKN.out).2 HB4.out))
              have HA5 := hide ((hif5 i a HIN2.out).2 HA4.out)
              have HB5 := hide ((hif5 k b HKN.out).2 HB4.out)
              clear huf5 hif5 hrw5 hch5 HHA
              go_wp2_with fail
              refine HHB.out.mono ?_
              rintro e w6 ⟨F6, rfl, huf6, hif6, hrw6, hch6⟩
              have hpf6 := HP5.out.chg hch6 hrw6 huf6.len
              have ha6 := (hif6 i a HIN2.out).2 HA5.out
              have hb6 := (hif6 k b HKN.out).2 HB5.out
              have hal : a ≤ i := ha6.le huf6.le HIN2.out
              have hbl : b ≤ k := hb6.le huf6.le HKN.out
              have hMn : max a b < ids.length := by have := HIN2.out; have := HKN.out; omega
              have hMI : ((max a b : Nat) : Int) < ids.length := Int.ofNat_lt.2 hMn
              have hMe : max (a : Int) (b : Int) = ((max a b : Nat) : Int) := by omega
              have hme : min (a : Int) (b : Int) = ((min a b : Nat) : Int) := by omega
              obtain ⟨cM, zM⟩ := hpf6.row.atN hpf6.len hMn
              have HREL : Hid (∃ (j' : Nat) (F : List Nat), I ((j : Int) + 1) = I j' ∧ j' ≤ l.length ∧ Pf W (w6.setCell ⟨fg, max a b, none⟩ (I ((min a b : Nat) : Int))) fg ids.length F ∧ Uf (AR L i j') ids.length F) := by
                refine ⟨j + 1, F6.set (max a b) (min a b), by simp, HJL.out, hpf6.set hMn _, ?_⟩
                rw [AR.one (m := k) (by rw [HEL.out]; exact HK.out)]
                exact huf6.join HARI.out HIN2.out HKN.out ha6 hb6
              clear huf6 hif6 hrw6 hch6 hpf6 ha6 hb6 hal hbl hMn HHB
              go_wp2_with fail
              go_roundw
              case rel => (try rw [hwj]); exact HREL.out
              case measure => (try rw [hwj]); simp only [RowKit.intOf]; exact ms5 HJL.out
            · have hjI : ¬ ((j : Int) < l.length) := fun h => hjl (Int.ofNat_lt.1 h)
              obtain rfl : j = l.length := Nat.le_antisymm hj (Nat.le_of_not_lt hjl)
              have HREL : Hid (∃ (i' : Nat) (F : List Nat), I ((i : Int) + 1) = I i' ∧ i' ≤ L.length ∧ Pf W wr fg ids.length F ∧ Uf (AR L i' 0) ids.length F) := by
                refine ⟨i + 1, F4, by simp, HIL.out, hpf4, ?_⟩
                rw [← AR.row, HEL.out]
                exact huf4
              clear hj hpf4 huf4 hjl
              go_wp2_with fail
              go_roundw
              case rel => (try rw [hwi]); exact HREL.out
              case measure => (try rw [hwi]); simp only [RowKit.intOf]; exact ms5 HIL.out
        · have hiI : ¬ ((i : Int) < L.length) := fun h => hil (Int.ofNat_lt.1 h)
          obtain rfl : i = L.length := Nat.le_antisymm hi (Nat.le_of_not_lt hil)
          have HARI : Hid (∀ p q, AR L L.length 0 p q → p < ids.length ∧ q < ids.length) := AR.in_ HN.out HIN.out 0 (.inr ⟨Nat.le_of_eq HN.out, rfl⟩)
          have HP3 := hide hpf
          have HU3 := hide huf
          clear hi hpf huf hil
          go_wp2_with fail
          go_loopw [62] (fun kv wr => ∃ (i : Nat) (F : List Nat), kv = I i ∧ i ≤ ids.length ∧ Pf W wr fg ids.length F ∧ (∀ m, m < i → Rt F2 m F[m]!) ∧ (∀ m, i ≤ m → m < ids.length → F[m]! = F2[m]!)) (fun kv _ => ids.length - (RowKit.intOf kv).toNat)
          case atStart => exact ⟨0, _, rfl, Nat.zero_le _, HP3.out, fun m hm => absurd hm (by omega), fun _ _ _ => rfl⟩
          case round =>
            obtain ⟨i, F7, rfl, hi, hpf, hlo, hhi⟩ := hrel
            by_cases hil : i < ids.length
            · have hiI : (i : Int) < ids.length := Int.ofNat_lt.2 hil
              obtain ⟨ci, zi⟩ := hpf.row.atN hpf.len hil
              have hx0 : F7[i]! = F2[i]! := hhi i (Nat.le_refl _) hil
              have hxle : F2[i]! ≤ i := HU3.out.le i hil
              obtain ⟨x, hx⟩ : ∃ x, x = F7[i]! := ⟨_, rfl⟩
              have hxi : x ≤ i := by omega
              have hxI : (x : Int) < ids.length := by omega
              obtain ⟨cx, -⟩ := hpf.row.atN hpf.len (m := x) (by omega)
              have hwi : wrap64 ((i : Int) + 1) = (i : Int) + 1 := wone5 i (by have := HB.out; omega)
              have hrt : Rt F2 i F7[x]! := by
                by_cases e : x = i
                · rw [e, hx0]
                  have e2 : F2[i]! = i := by omega
                  rw [e2]
                  exact .here e2
                · refine .on (by omega) ?_
                  rw [← hx0, ← hx]
                  exact hlo x (by omega)
              obtain ⟨y, hy⟩ : ∃ y, y = F7[x]! := ⟨_, rfl⟩
              rw [← hx] at ci
              rw [← hy] at cx hrt
              have HREL : Hid (∃ (i' : Nat) (F : List Nat), I ((i : Int) + 1) = I i' ∧ i' ≤ ids.length ∧ Pf W (wr.setCell ⟨fg, i, none⟩ (I (y : Int))) fg ids.length F ∧ (∀ m, m < i' → Rt F2 m F[m]!) ∧ (∀ m, i' ≤ m → m < ids.length → F[m]! = F2[m]!)) := by
                have hs : ∀ q, (F7.set i y)[q]! = if q = i then y else F7[q]! := fun q => getW_set (by rw [hpf.len]; exact hil)
                refine ⟨i + 1, F7.set i y, by simp, hil, hpf.set hil y, fun m hm => ?_, fun m h1 h2 => ?_⟩
                · rw [hs]
                  split
                  · rename_i e; rw [e]; exact hrt
                  · exact hlo m (by omega)
                · rw [hs, if_neg (by omega)]
                  exact hhi m (by omega) h2
              have HIL := hide hil
              clear hi hpf hlo hhi hil hx0 hxle hx hxi hrt hy
              go_wp2_with fail
              go_roundw
              case rel => (try rw [hwi]); exact HREL.out
              case measure => (try rw [hwi]); simp only [RowKit.intOf]; exact ms5 HIL.out
            · have hiI : ¬ ((i : Int) < ids.length) := fun h => hil (Int.ofNat_lt.1 h)
              obtain rfl : i = ids.length := Nat.le_antisymm hi (Nat.le_of_not_lt hil)
              have HF : Hid (G W wr ∧ W.heap.size ≤ fg ∧ Rw W.heap.size 3 1 wr (.slice (some ⟨fg, 0, none⟩) ids.length ids.length) ids.length (F7.map fun (i : Nat) => I (i : Int)) ∧ F7.length = ids.length ∧ ∀ i, i < ids.length → Jn (AR L L.length 0) i F7[i]! ∧ ∀ j, Jn (AR L L.length 0) i j → F7[i]! ≤ j) :=
                ⟨hpf.g, Nat.le_of_eq HFG.out.symm, hpf.row, hpf.len, fun i hi => HU3.out.least HARI.out hi (hlo i hi)⟩
              clear hi hpf hlo hhi hil
              go_wp2_with fail
              go_ret
              exact ⟨fg, F7, rfl, HF.out⟩
end Go.Proofs.YtemkilffagjmcaaDoor
