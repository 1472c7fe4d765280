/- Paths: the document's Parts. -/
import Derived.Test.YtemkilffagjmcaaDoorPz23
namespace Go.Proofs.YtemkilffagjmcaaDoor
section
open Go.RowKit

/-- The document's low: none stands further behind, each is joined with its low. -/
structure Lw (A : Nat → Nat → Prop) (n : Nat) (X : List Nat) : Prop where
  len : X.length = n
  le : ∀ i, i < n → X[i]! ≤ i
  jn : ∀ i, i < n → Jn A i X[i]!
theorem Lw.start (A : Nat → Nat → Prop) {n : Nat} (X : List Nat) (hl : X.length = n) (h : ∀ m, m < n → X[m]! = m) : Lw A n X :=
  ⟨hl, fun i hi => by rw [h i hi]; exact Nat.le_refl _, fun i hi => by rw [h i hi]; exact .refl i⟩
theorem Lw.set {A : Nat → Nat → Prop} {n i m : Nat} {X : List Nat} (h : Lw A n X) (hi : i < n) (h1 : m ≤ X[i]!) (h2 : Jn A i m) : Lw A n (X.set i m) := by
  have hs : ∀ q, (X.set i m)[q]! = if q = i then m else X[q]! := fun q => getW_set (by rw [h.len]; exact hi)
  refine ⟨by rw [List.length_set]; exact h.len, fun q hq => ?_, fun q hq => ?_⟩
  · rw [hs]
    split
    · rename_i e
      subst e
      exact Nat.le_trans h1 (h.le q hq)
    · exact h.le q hq
  · rw [hs]
    split
    · rename_i e
      subst e
      exact h2
    · exact h.jn q hq
theorem sum_set : ∀ (X : List Nat) (i m : Nat), i < X.length → (X.set i m).sum + X[i]! = X.sum + m
  | [], _, _, h => absurd h (by simp)
  | x :: X, 0, m, _ => by simp; omega
  | x :: X, i + 1, m, h => by
    have := sum_set X i m (by simpa using h)
    have e : (x :: X)[i + 1]! = X[i]! := by simp
    rw [e]
    simp only [List.set_cons_succ, List.sum_cons]
    omega
/-- Both ends of an arc get the lesser one. -/
theorem Lw.two {A : Nat → Nat → Prop} {n i k m : Nat} {X : List Nat} (h : Lw A n X) (hi : i < n) (hk : k < n) (ha : A i k) (hm : m = min X[i]! X[k]!) (hne : ¬ (X[i]! = m ∧ X[k]! = m)) : Lw A n ((X.set i m).set k m) ∧ ((X.set i m).set k m).sum < X.sum := by
  have hji : Jn A i m := by
    by_cases e : X[i]! ≤ X[k]!
    · rw [hm, Nat.min_eq_left e]
      exact h.jn i hi
    · rw [hm, Nat.min_eq_right (by omega)]
      exact .trans (.arc ha) (h.jn k hk)
  have h1 : Lw A n (X.set i m) := h.set hi (by omega) hji
  have hs : (X.set i m)[k]! = if k = i then m else X[k]! := getW_set (by rw [h.len]; exact hi)
  have hle : m ≤ (X.set i m)[k]! := by
    rw [hs]
    split
    · exact Nat.le_refl _
    · omega
  refine ⟨h1.set hk hle (.trans (.symm (.arc ha)) hji), ?_⟩
  have e1 := sum_set X i m (by rw [h.len]; exact hi)
  have e2 := sum_set (X.set i m) k m (by rw [h1.len]; exact hk)
  rw [hs] at e2
  split at e2
  · rename_i e
    subst e
    omega
  · omega
theorem Lw.least {A : Nat → Nat → Prop} {n : Nat} {X : List Nat} (h : Lw A n X) (hA : ∀ i j, A i j → i < n ∧ j < n) (he : ∀ i k, A i k → X[i]! = X[k]!) (i : Nat) (hi : i < n) : Jn A i X[i]! ∧ ∀ j, Jn A i j → X[i]! ≤ j := by
  have key : ∀ {i j}, Jn A i j → (i < n ↔ j < n) ∧ X[i]! = X[j]! := by
    intro i j k
    induction k with
    | refl i => exact ⟨Iff.rfl, rfl⟩
    | arc q => exact ⟨⟨fun _ => (hA _ _ q).2, fun _ => (hA _ _ q).1⟩, he _ _ q⟩
    | symm _ ih => exact ⟨ih.1.symm, ih.2.symm⟩
    | trans _ _ ih1 ih2 => exact ⟨ih1.1.trans ih2.1, ih1.2.trans ih2.2⟩
  refine ⟨h.jn i hi, fun j hj => ?_⟩
  obtain ⟨a, b⟩ := key hj
  rw [b]
  exact h.le j (a.1 hi)
/-- The sum of a row of whole numbers, as memory has it. -/
def smW (w : World) (b n : Nat) : Nat := ((List.range n).map fun i => (RowKit.intOf ((w.cell? ⟨b, i, none⟩).getD (I 0))).toNat).sum
theorem Pf.sm {W w : World} {fg n : Nat} {F : List Nat} (h : Pf W w fg n F) : smW w fg n = F.sum := by
  unfold smW
  congr 1
  refine List.ext_getElem (by rw [List.length_map, List.length_range, h.len]) (fun i h1 h2 => ?_)
  have hi : i < n := by rw [← h.len]; exact h2
  obtain ⟨c, -⟩ := h.row.atN h.len hi
  rw [List.getElem_map, List.getElem_range, c]
  show ((F[i]! : Nat) : Int).toNat = _
  rw [Hp.get_of h2]
  rfl
end
open Go.RowKit

/-- What the document's Parts leaves. -/
def RPPost (W : World) (rs : List Nr) (tail : Bool) (ids nodes : List Int) (e : Ending) (W' : World) : Prop :=
  ∃ (out : List Int) (code : Int) (asked : List Int) (ov qv : Value), PrtR rs tail ids nodes out code asked ∧ e = .returned (.tuple #[ov, I code, qv]) ∧ Rw W.heap.size 2 1 W' ov out.length (out.map I) ∧ Rw W.heap.size 2 1 W' qv asked.length (asked.map I) ∧ G W W'
def bN : Value → Nat
  | .bool true => 1
  | _ => 0
/-- While the document's low is made lower: what is known at a place of the arcs. -/
structure Lo (W w : World) (lg n : Nat) (L : List (List Nat)) (i j : Nat) (b : Bool) (X0 X : List Nat) : Prop where
  pf : Pf W w lg n X
  lw : Lw (AR L L.length 0) n X
  no : b = false → X = X0 ∧ ∀ p q, AR L i j p q → X[p]! = X[q]!
  ye : b = true → X.sum < X0.sum
theorem Lo.G {W w w' : World} {lg n : Nat} {L : List (List Nat)} {i j : Nat} {b : Bool} {X0 X : List Nat} (h : Lo W w lg n L i j b X0 X) (g : Go.Proofs.YtemkilffagjmcaaDoor.G w w') : Lo W w' lg n L i j b X0 X := ⟨h.pf.G g, h.lw, h.no, h.ye⟩
theorem AR.all {L : List (List Nat)} {i m j : Nat} (hi : i < L.length) (h : (L[i]!)[j]? = some m) : AR L L.length 0 i m := .inl ⟨hi, List.mem_of_getElem? h⟩
/-- An arc whose ends have the same low. -/
theorem Lo.same {W w : World} {lg n : Nat} {L : List (List Nat)} {i j k : Nat} {b : Bool} {X0 X : List Nat} (h : Lo W w lg n L i j b X0 X) (hk : (L[i]!)[j]? = some k) (he : X[i]! = X[k]!) : Lo W w lg n L i (j + 1) b X0 X := by
  refine ⟨h.pf, h.lw, fun hb => ⟨(h.no hb).1, fun p q hpq => ?_⟩, h.ye⟩
  rw [AR.one hk] at hpq
  rcases hpq with hpq | ⟨rfl, rfl⟩
  · exact (h.no hb).2 p q hpq
  · exact he
/-- An arc whose ends get the lesser one. -/
theorem Lo.both {W w : World} {lg n : Nat} {L : List (List Nat)} {i j k m : Nat} {b : Bool} {X0 X : List Nat} (h : Lo W w lg n L i j b X0 X) (hi : i < n) (hkn : k < n) (hiL : i < L.length) (hk : (L[i]!)[j]? = some k) (hm : m = min X[i]! X[k]!) (hne : ¬ (X[i]! = m ∧ X[k]! = m)) : Lo W ((w.setCell ⟨lg, i, none⟩ (I (m : Int))).setCell ⟨lg, k, none⟩ (I (m : Int))) lg n L i (j + 1) true X0 ((X.set i m).set k m) := by
  obtain ⟨h1, h2⟩ := h.lw.two hi hkn (AR.all hiL hk) hm hne
  refine ⟨(h.pf.set hi m).set hkn m, h1, fun q => (by cases q), fun _ => ?_⟩
  cases b with
  | true => exact Nat.lt_trans h2 (h.ye rfl)
  | false => rw [(h.no rfl).1] at h2; rw [(h.no rfl).1]; exact h2
theorem Lo.row {W w : World} {lg n : Nat} {L : List (List Nat)} {i : Nat} {b : Bool} {X0 X : List Nat} (h : Lo W w lg n L i (L[i]!).length b X0 X) : Lo W w lg n L (i + 1) 0 b X0 X := by
  refine ⟨h.pf, h.lw, fun hb => ⟨(h.no hb).1, fun p q hpq => (h.no hb).2 p q ?_⟩, h.ye⟩
  rw [AR.row]
  exact hpq
theorem Lo.first {W w : World} {lg n : Nat} {L : List (List Nat)} {X : List Nat} (h : Pf W w lg n X) (hl : Lw (AR L L.length 0) n X) : Lo W w lg n L 0 0 false X X :=
  ⟨h, hl, fun _ => ⟨rfl, fun p q hpq => by rw [AR.zero] at hpq; exact hpq.elim⟩, fun q => by cases q⟩
theorem Lo.less {W w w' : World} {lg n : Nat} {L : List (List Nat)} {i j : Nat} {b : Bool} {X0 X : List Nat} (h : Lo W w lg n L i j b X0 X) (h0 : Pf W w' lg n X0) : 2 * smW w lg n + bN (.bool b) < 2 * smW w' lg n + 1 := by
  rw [h.pf.sm, h0.sm]
  cases b with
  | true => have := h.ye rfl; simp only [bN]; omega
  | false => rw [(h.no rfl).1]; simp only [bN]; omega
theorem mk_N (w : World) (n : Nat) (hn : n ≤ 4096) : (Instr.makeSlice 62 (I (n : Int)) (I (n : Int))).run Tryd.prog w = .ok (.slice (some ⟨w.heap.size, 0, none⟩) n n) (w.alloc (.cells (List.replicate n (I 0)).toArray 3)) := by
  obtain ⟨i0, hi, hz0, hz1, hz2⟩ := info_N
  have hmk := run_make (P := Tryd.prog) w 62 3 i0 (I 0) Tryd.underlying62 hi hz0 .i64 .i64 (n : Int) (n : Int) (by omega) (by omega) (by rw [hz2]; omega) (by omega)
  rw [hz1, made_i, Nat.mul_one, show ((n : Int)).toNat = n by omega] at hmk
  exact hmk
theorem min_nat (a c : Nat) : min (a : Int) (c : Int) = ((min a c : Nat) : Int) := by omega
theorem ne_b {a c : Nat} (h : a ≠ c) : ((a : Int) != (c : Int)) = true := by
  rw [bne_iff_ne]
  omega
set_option maxRecDepth 100000 in
set_option maxHeartbeats 4000000 in
theorem rparts_any (W : World) (rv : Value) (rs : List Nr) (tail : Bool) (hN : Nrs W rv rs) (hrl : rs.length ≤ 1048576) (hal : ∀ id, (netOf rs tail id).1.length ≤ 1048576) (v : Value) (nodes : List Int) (hI : Ids W v nodes) (hnl : nodes.length ≤ 1048576) :
    Calls Tryd.prog 14 #[.agg #[rv, .bool tail], v] W (RPPost W rs tail (eachL nodes) nodes) := by
  obtain ⟨rva, rvc, hrv⟩ : ∃ a c, rv = .slice a rs.length c := by obtain ⟨a, c, e, _⟩ := hN; exact ⟨a, c, e⟩
  subst hrv
  obtain ⟨la, lc, rfl⟩ : ∃ la lc, v = .slice la nodes.length lc := by obtain ⟨a, c, e, -⟩ := hI.at_; exact ⟨a, c, e⟩
  have g0 : G W (W.alloc (.cells #[.slice rva rs.length rvc, .bool tail] 26)) := (G.refl W).alloc _
  have c0 := (Blk.new W [.slice rva rs.length rvc, .bool tail] 26).cell
  have HGA := hide (gather_any _ _ rs tail (hN.G g0) hrl hal _ nodes (hI.G g0) hnl)
  have HUP := hide (eachL_up nodes)
  have HMEM : Hid (∀ a, a ∈ eachL nodes ↔ a ∈ nodes) := fun a => eachL_mem
  obtain ⟨ids, hids⟩ : ∃ ids, ids = eachL nodes := ⟨_, rfl⟩
  rw [← hids] at HGA HUP HMEM
  rw [← hids]
  have HG0 := hide g0
  have HAL := hide hal
  have HII := hide hI
  have HNL := hide hnl
  clear g0 hN hal hI hnl hids
  go_enter Tryd.func14, Tryd.ntmps14
  go_wp2_with fail
  refine HGA.out.mono ?_
  clear c0 HGA
  rintro e w1 ⟨hg1, ⟨h4, rfl⟩ | ⟨h4, k, id, av, hk, hc, hcd, rfl, hra⟩ | ⟨h4, hcd, iv, ov, av, rfl, hga⟩⟩
  · have HF : Hid (RPPost W rs tail ids nodes (.returned (.tuple #[.slice none 0 0, I 92, .slice none 0 0])) w1) := ⟨[], 92, [], _, _, .inl ⟨h4, rfl, rfl, rfl⟩, rfl, Rw.nil _ _ _ _, Rw.nil _ _ _ _, HG0.out.trans hg1⟩
    clear hg1 h4
    go_wp2_with fail
    exact bodyPost_ret (v := .tuple #[.slice none 0 0, I 92, .slice none 0 0]) (by simp [results, Tryd.results14, go_sem]) rfl HF.out
  · obtain ⟨aa, ac, rfl⟩ := Rw.form hra
    obtain ⟨code, hcode⟩ : ∃ code, code = (netOf rs tail id).2 := ⟨_, rfl⟩
    have HF : Hid (RPPost W rs tail ids nodes (.returned (.tuple #[.slice none 0 0, I code, .slice aa (ids.take (k + 1)).length ac])) w1) := ⟨[], code, ids.take (k + 1), _, _, .inr (.inl ⟨h4, k, id, hk, hc, hcd, rfl, hcode, rfl⟩), rfl, Rw.nil _ _ _ _, Rw.base hra HG0.out.size, HG0.out.trans hg1⟩
    rw [← hcode] at hc ⊢
    have hcb : (code != 0) = true := by simpa using hc
    have hcb2 : (code == 0) = false := beq_eq_false_iff_ne.2 hc
    obtain ⟨n, hn⟩ : ∃ n, n = (ids.take (k + 1)).length := ⟨_, rfl⟩
    rw [← hn] at HF ⊢
    clear hg1 h4 hk hc hcd hra hcode hn
    go_wp2_with fail
    exact bodyPost_ret (v := .tuple #[.slice none 0 0, I code, .slice aa n ac]) (by simp [results, Tryd.results14, go_sem]) rfl HF.out
  · obtain ⟨L, hL⟩ : ∃ L, L = (ids.map fun id => insL (atI ids) (netOf rs tail id).1) := ⟨_, rfl⟩
    rw [← hL] at hga
    have hLl : L.length = ids.length := by rw [hL, List.length_map]
    have HBL : Hid (∀ l ∈ L, l.length ≤ 1048576) := fun l hl => by
      rw [hL] at hl
      obtain ⟨id, -, rfl⟩ := List.mem_map.1 hl
      exact Nat.le_trans (insL_len _ _) (HAL.out id)
    have HIN : Hid (∀ l ∈ L, ∀ m ∈ l, m < ids.length) := fun l hl => by
      rw [hL] at hl
      obtain ⟨id, -, rfl⟩ := List.mem_map.1 hl
      exact insL_in
    have HFIN : Hid (∀ X : List Nat, X.length = ids.length → (∀ i, i < ids.length → Jn (AR L L.length 0) i X[i]! ∧ ∀ j, Jn (AR L L.length 0) i j → X[i]! ≤ j) → PrtR rs tail ids nodes (nodes.map (fun x : Int => ids[X[(atI ids x).getD 0]!]!)) 0 ids) := fun X q1 q2 => by
      rw [hL] at q2
      exact .inr (.inr ⟨h4, hcd, rfl, rfl, X, q1, q2, rfl⟩)
    obtain ⟨ia, ic, rfl⟩ := Rw.form hga.ids
    obtain ⟨aa, ac, rfl⟩ := Rw.form hga.ask
    obtain ⟨vs, hvs, hvr⟩ := hga.arc
    obtain ⟨oa, oc, rfl⟩ := Rw.form hvs
    have hvl : vs.length = L.length := by have := hvs.1; omega
    have hG1 : G W w1 := HG0.out.trans hg1
    have hmx : (4096 : Nat) ≤ maxLen := of_decide_eq_true (by kernel_rfl)
    have hrd := rw_mw w1 w1.heap.size ids.length (by omega) (Nat.le_refl _)
    have hg2 : G w1 (w1.alloc (.cells (List.replicate ids.length (I 0)).toArray 3)) := (G.refl w1).alloc _
    have HMK := hide (mk_N w1 ids.length h4)
    have HPF : Hid (Pf w1 (w1.alloc (.cells (List.replicate ids.length (I 0)).toArray 3)) w1.heap.size ids.length (List.replicate ids.length 0)) := ⟨hg2, hrd, List.length_replicate⟩
    have HG1 := hide hG1
    have HLL := hide hLl
    have H4 := hide h4
    have HIR := hide (Rw.base hga.ids HG0.out.size)
    have HAR := hide (Rw.base hga.ask HG0.out.size)
    have HVS := hide hvs
    have HVR := hide hvr
    have HVL := hide hvl
    have HARI : Hid (∀ p q, AR L L.length 0 p q → p < ids.length ∧ q < ids.length) := AR.in_ hLl HIN.out 0 (.inr ⟨Nat.le_of_eq hLl, rfl⟩)
    generalize (w1.alloc (.cells (List.replicate ids.length (I 0)).toArray 3)) = w2 at HMK HPF
    obtain ⟨lg, hlg⟩ : ∃ lg, lg = w1.heap.size := ⟨_, rfl⟩
    rw [← hlg] at HMK HPF
    clear hg1 h4 hcd hga hLl hL hG1 hmx hrd hg2 hlg hvs hvr hvl
    go_wp2_with fail
    rw [HMK.out]
    clear HMK
    go_wp2_with fail
    go_loopw [12] (fun kv wr => ∃ (i : Nat) (X : List Nat), kv = I i ∧ i ≤ ids.length ∧ Pf w1 wr lg ids.length X ∧ ∀ m, m < i → X[m]! = m) (fun kv _ => ids.length - (RowKit.intOf kv).toNat)
    case atStart => exact ⟨0, _, rfl, Nat.zero_le _, HPF.out, fun m hm => absurd hm (by omega)⟩
    case round =>
      obtain ⟨i, X, rfl, hi, hpf, hX⟩ := hrel
      by_cases hil : i < ids.length
      · have hiI : (i : Int) < ids.length := Int.ofNat_lt.2 hil
        obtain ⟨ci, zi⟩ := hpf.row.atN hpf.len hil
        have hwi : wrap64 ((i : Int) + 1) = (i : Int) + 1 := wone5 i (Nat.le_trans (Nat.le_of_lt hil) (Nat.le_trans H4.out (by decide)))
        have HP2 := hide (hpf.set hil i)
        have HF2 : Hid (∀ m, m < i + 1 → (X.set i i)[m]! = m) := fun m hm => by
          rw [getW_set (by rw [hpf.len]; exact hil)]
          split
          · rename_i e; exact e.symm
          · rename_i e; exact hX m (Nat.lt_of_le_of_ne (Nat.le_of_lt_succ hm) e)
        have HIL := hide hil
        clear hi hpf hX hil
        go_wp2_with fail
        go_roundw
        case rel => (try rw [hwi]); exact ⟨i + 1, _, by simp, HIL.out, HP2.out, HF2.out⟩
        case measure => (try rw [hwi]); simp only [RowKit.intOf]; exact ms5 HIL.out
      · have hiI : ¬ ((i : Int) < ids.length) := fun h => hil (Int.ofNat_lt.1 h)
        obtain rfl : i = ids.length := Nat.le_antisymm hi (Nat.le_of_not_lt hil)
        have HLW : Hid (Lw (AR L L.length 0) ids.length X) := Lw.start _ X hpf.len hX
        have HP2 := hide hpf
        clear hi hpf hX hil HPF
        go_wp2_with fail
        go_loopw [13] (fun bv wr => ∃ (b : Bool) (X : List Nat), bv = .bool b ∧ Pf w1 wr lg ids.length X ∧ Lw (AR L L.length 0) ids.length X ∧ (b = false → ∀ p q, AR L L.length 0 p q → X[p]! = X[q]!)) (fun bv wr => 2 * smW wr lg ids.length + bN bv)
        case atStart => exact ⟨true, _, rfl, HP2.out, HLW.out, fun q => (by cases q)⟩
        case round =>
          obtain ⟨b, X0, rfl, hpf0, hlw0, hcl0⟩ := hrel
          cases b with
          | true =>
            have HLO := hide (Lo.first hpf0 hlw0)
            have HPF0 := hide hpf0
            obtain ⟨wo, rfl⟩ : ∃ wo, wo = wr := ⟨_, rfl⟩
            clear hpf0 hlw0 hcl0 HP2 HLW
            go_wp2_with fail
            go_loopw [13, 14] (fun bv kv wr => ∃ (b : Bool) (i : Nat) (X : List Nat), bv = .bool b ∧ kv = I i ∧ i ≤ L.length ∧ Lo w1 wr lg ids.length L i 0 b X0 X) (fun _ kv _ => L.length - (RowKit.intOf kv).toNat)
            case atStart => exact ⟨false, 0, _, rfl, rfl, Nat.zero_le _, HLO.out⟩
            case round =>
              obtain ⟨b, i, X, rfl, rfl, hi, hlo⟩ := hrel
              by_cases hil : i < L.length
              · have hiI : (i : Int) < L.length := Int.ofNat_lt.2 hil
                obtain ⟨l, hl⟩ : ∃ l, L[i]? = some l := ⟨_, List.getElem?_eq_getElem hil⟩
                obtain ⟨lv, hlv⟩ : ∃ lv, vs[i]? = some lv := ⟨_, List.getElem?_eq_getElem (by rw [HVL.out]; exact hil)⟩
                have hwi : wrap64 ((i : Int) + 1) = (i : Int) + 1 := wone5 i (Nat.le_trans (Nat.le_of_lt hil) (by rw [HLL.out]; exact Nat.le_trans H4.out (by decide)))
                have HROW := hide (HVR.out i lv l hlv hl)
                have HLN := hide (HBL.out l (List.mem_of_getElem? hl))
                have HLI := hide (HIN.out l (List.mem_of_getElem? hl))
                have HEL : Hid (L[i]! = l) := by show _ = _; simp [hl]
                have HIL := hide hil
                have HIN2 : Hid (i < ids.length) := by show _ < _; rw [← HLL.out]; exact hil
                have HLV := hide hlv
                have HL3 := hide hlo
                obtain ⟨ta, tc, rfl⟩ := Rw.form (HVR.out i lv l hlv hl)
                obtain ⟨go, capo, heo, -, -⟩ := HVS.out.cell (Nat.zero_lt_of_lt hil)
                obtain ⟨rfl, rfl⟩ : oa = some ⟨go, 0, none⟩ ∧ oc = capo := by simp at heo; exact heo
                have HCO : Hid (∀ V, G w1 V → V.cell? ⟨go, i, none⟩ = some (.slice ta l.length tc)) := fun V gV => by
                  obtain ⟨go', capo', heo', -, hco', -⟩ := (Rw.G HVS.out gV).cell (Nat.zero_lt_of_lt hil)
                  have : go = go' := by simp at heo'; exact heo'.1
                  subst this
                  rw [hco' i (by rw [Nat.mul_one]; exact hil)]
                  exact hlv
                clear hi hlo hil hl hlv heo
                go_wp2_with fail
                go_loopw [13, 15] (fun bv jv wr => ∃ (b : Bool) (j : Nat) (X : List Nat), bv = .bool b ∧ jv = I j ∧ j ≤ l.length ∧ Lo w1 wr lg ids.length L i j b X0 X) (fun _ jv _ => l.length - (RowKit.intOf jv).toNat)
                case atStart => exact ⟨b, 0, X, rfl, rfl, Nat.zero_le _, HL3.out⟩
                case round =>
                  obtain ⟨b, j, X, rfl, rfl, hj, hlo⟩ := hrel
                  have co := HCO.out wr hlo.pf.g
                  by_cases hjl : j < l.length
                  · have hjI : (j : Int) < l.length := Int.ofNat_lt.2 hjl
                    obtain ⟨k, hk⟩ : ∃ k, l[j]? = some k := ⟨_, List.getElem?_eq_getElem hjl⟩
                    have hkn : k < ids.length := HLI.out k (List.mem_of_getElem? hk)
                    have hkI : (k : Int) < ids.length := Int.ofNat_lt.2 hkn
                    have hiN : (i : Int) < ids.length := Int.ofNat_lt.2 HIN2.out
                    obtain ⟨gt, capt, het, -, hct, -⟩ := (Rw.G HROW.out hlo.pf.g).cell (Nat.zero_lt_of_lt hjl)
                    obtain ⟨rfl, rfl⟩ : ta = some ⟨gt, 0, none⟩ ∧ tc = capt := by simp at het; exact het
                    have ct : wr.cell? ⟨gt, j, none⟩ = some (I (k : Int)) := by rw [hct j (by rw [Nat.mul_one]; exact hjl), List.getElem?_map, hk]; rfl
                    have hwj : wrap64 ((j : Int) + 1) = (j : Int) + 1 := wone5 j (Nat.le_trans (Nat.le_of_lt hjl) (Nat.le_trans HLN.out (by decide)))
                    have HKE : Hid ((L[i]!)[j]? = some k) := by show _ = _; rw [HEL.out]; exact hk
                    obtain ⟨ci, -⟩ := hlo.pf.row.atN hlo.pf.len HIN2.out
                    obtain ⟨ck, -⟩ := hlo.pf.row.atN hlo.pf.len hkn
                    obtain ⟨a, ha⟩ : ∃ a, a = X[i]! := ⟨_, rfl⟩
                    obtain ⟨c, hc⟩ : ∃ c, c = X[k]! := ⟨_, rfl⟩
                    rw [← ha] at ci
                    rw [← hc] at ck
                    have HJL := hide hjl
                    have HA := hide ha
                    have HC := hide hc
                    have HKN := hide hkn
                    have HL4 := hide hlo
                    clear hj hlo hjl hk hkn het hct ha hc
                    by_cases hac : a = c
                    · subst hac
                      have HL5 := hide (HL4.out.same HKE.out (by rw [← HA.out, ← HC.out]))
                      go_wp2_with fail
                      go_quiet (fail)
                      go_wp2_with fail
                      go_roundw
                      case rel => (try rw [hwj]); exact ⟨b, j + 1, X, rfl, by simp, HJL.out, HL5.out.G (g_drewN _ _)⟩
                      case measure => (try rw [hwj]); simp only [RowKit.intOf]; exact ms5 HJL.out
                    · obtain ⟨m, hm⟩ : ∃ m, m = min a c := ⟨_, rfl⟩
                      have hme : min (a : Int) (c : Int) = (m : Int) := by rw [hm]; exact min_nat a c
                      have HM := hide hm
                      have HNE : Hid (¬ (X[i]! = m ∧ X[k]! = m)) := fun q => by
                        rw [← HA.out, ← HC.out] at q
                        exact hac (q.1.trans q.2.symm)
                      have HTST : Hid ((((a : Int) != (m : Int)) = true) ∨ (((a : Int) != (m : Int)) = false ∧ ((c : Int) != (m : Int)) = true)) := by
                        by_cases q : a = m
                        · exact .inr ⟨by rw [q]; simp, ne_b (fun e => hac (q.trans e.symm))⟩
                        · exact .inl (ne_b q)
                      clear hm hac
                      go_wp2_with fail
                      go_quiet (fail)
                      generalize hwd : World.drewN wr _ = wd
                      have HGD : Hid (G wr wd) := by rw [← hwd]; exact g_drewN _ _
                      have HL5 := hide (HL4.out.G HGD.out)
                      have HL6 := hide (HL5.out.both HIN2.out HKN.out HIL.out HKE.out (m := m) (by rw [← HA.out, ← HC.out]; exact HM.out) HNE.out)
                      obtain ⟨ci5, zi5⟩ := HL5.out.pf.row.atN HL5.out.pf.len HIN2.out
                      obtain ⟨ck5, -⟩ := HL5.out.pf.row.atN HL5.out.pf.len HKN.out
                      obtain ⟨ck6, zk6⟩ := (HL5.out.pf.set HIN2.out m).row.atN (HL5.out.pf.set HIN2.out m).len HKN.out
                      rw [← HA.out] at ci5
                      rw [← HC.out] at ck5
                      generalize (X.set i m)[k]! = y6 at ck6
                      clear hwd ci ck co ct HL4 HGD HL5
                      rcases HTST.out with ht | ⟨ht, ht2⟩
                      · go_wp2_with fail
                        go_roundw
                        case rel => (try rw [hwj]); exact ⟨true, j + 1, _, rfl, by simp, HJL.out, HL6.out⟩
                        case measure => (try rw [hwj]); simp only [RowKit.intOf]; exact ms5 HJL.out
                      · go_wp2_with fail
                        go_roundw
                        case rel => (try rw [hwj]); exact ⟨true, j + 1, _, rfl, by simp, HJL.out, HL6.out⟩
                        case measure => (try rw [hwj]); simp only [RowKit.intOf]; exact ms5 HJL.out
                  · have hjI : ¬ ((j : Int) < l.length) := fun h => hjl (Int.ofNat_lt.1 h)
                    obtain rfl : j = l.length := Nat.le_antisymm hj (Nat.le_of_not_lt hjl)
                    have HL5 : Hid (Lo w1 wr lg ids.length L (i + 1) 0 b X0 X) := Lo.row (by rw [HEL.out]; exact hlo)
                    clear hj hlo hjl
                    go_wp2_with fail
                    go_roundw
                    case rel => (try rw [hwi]); exact ⟨b, i + 1, X, rfl, by simp, HIL.out, HL5.out⟩
                    case measure => (try rw [hwi]); simp only [RowKit.intOf]; exact ms5 HIL.out
              · have hiI : ¬ ((i : Int) < L.length) := fun h => hil (Int.ofNat_lt.1 h)
                obtain rfl : i = L.length := Nat.le_antisymm hi (Nat.le_of_not_lt hil)
                have HMS := hide (hlo.less HPF0.out)
                have HL5 := hide hlo
                clear hi hlo hil
                go_wp2_with fail
                go_roundw
                case rel => exact ⟨b, X, rfl, HL5.out.pf, HL5.out.lw, fun q => (HL5.out.no q).2⟩
                case measure => exact HMS.out
          | false =>
            have HXL := hide hpf0.len
            have HXN : Hid (∀ i, i < ids.length → X0[i]! < ids.length) := fun i hi => Nat.lt_of_le_of_lt (hlw0.le i hi) hi
            have HPR := hide (HFIN.out X0 hpf0.len (hlw0.least HARI.out (hcl0 rfl)))
            have HPF0 := hide hpf0
            have HGW := hide (HG1.out.trans hpf0.g)
            obtain ⟨w5, rfl⟩ : ∃ w5, w5 = wr := ⟨_, rfl⟩
            clear hpf0 hlw0 hcl0 HP2 HLW HFIN
            go_wp2_with fail
            go_loopw [18, 19] (fun ov kv w6 => ∃ (i : Nat) (ov' : Value), kv = I i ∧ ov = ov' ∧ i ≤ nodes.length ∧ Rw w5.heap.size 2 1 w6 ov' ((nodes.take i).map (fun x : Int => ids[X0[(atI ids x).getD 0]!]!)).length (((nodes.take i).map (fun x : Int => ids[X0[(atI ids x).getD 0]!]!)).map I) ∧ G w5 w6) (fun _ kv _ => nodes.length - (RowKit.intOf kv).toNat)
            case atStart => exact ⟨0, _, rfl, rfl, Nat.zero_le _, Rw.nil _ _ _ _, G.refl _⟩
            case round =>
              obtain ⟨i, ov, rfl, rfl, hi, hrow, hg6⟩ := hrel
              by_cases hil : i < nodes.length
              · have hiI : (i : Int) < nodes.length := Int.ofNat_lt.2 hil
                obtain ⟨id, hid⟩ : ∃ id, nodes[i]? = some id := ⟨_, List.getElem?_eq_getElem hil⟩
                have hidm : id ∈ nodes := List.mem_of_getElem? hid
                obtain ⟨q, hq⟩ : ∃ q, atI ids id = some q := by
                  cases h : atI ids id with
                  | none => exact absurd ((HMEM.out id).2 hidm) (atI_none.1 h)
                  | some q => exact ⟨q, rfl⟩
                have hql : q < ids.length := (List.getElem?_eq_some_iff.1 (atI_some hq)).1
                have hqI : (q : Int) < ids.length := Int.ofNat_lt.2 hql
                obtain ⟨lb, lo_, rfl, cn⟩ := (HII.out.G (HGW.out.trans hg6)).cellAt hid
                have hpl : plI ids id = (q : Int) := by unfold plI; rw [hq]
                have HPL := hide (place_any W.heap.size wr _ ids (Rw.G HIR.out (HPF0.out.g.trans hg6)) HUP.out (Nat.le_trans H4.out (by decide)) id)
                rw [hpl] at HPL
                have hfn := HXN.out q hql
                obtain ⟨f, hf⟩ : ∃ f, f = X0[q]! := ⟨_, rfl⟩
                rw [← hf] at hfn
                have hfI : (f : Int) < ids.length := Int.ofNat_lt.2 hfn
                obtain ⟨z, hz⟩ : ∃ z, ids[f]? = some z := ⟨_, List.getElem?_eq_getElem hfn⟩
                have hwi : wrap64 ((i : Int) + 1) = (i : Int) + 1 := wone6 i (Nat.le_trans (Nat.le_of_lt hil) HNL.out)
                have hTK : (nodes.take (i + 1)).map (fun x : Int => ids[X0[(atI ids x).getD 0]!]!) = (nodes.take i).map (fun x : Int => ids[X0[(atI ids x).getD 0]!]!) ++ [z] := by
                  rw [List.take_add_one, hid, List.map_append]
                  congr 1
                  show [ids[X0[(atI ids id).getD 0]!]!] = [z]
                  rw [hq]
                  show [ids[X0[q]!]!] = [z]
                  rw [← hf]
                  simp [hz]
                have HOL : Hid (((nodes.take i).map (fun x : Int => ids[X0[(atI ids x).getD 0]!]!)).length ≤ 1048576) := by
                  show _ ≤ _
                  rw [List.length_map, List.length_take]
                  exact Nat.le_trans (Nat.min_le_right _ _) HNL.out
                have HTK : Hid (∀ lo w v, Rw lo 2 1 w v (((nodes.take i).map (fun x : Int => ids[X0[(atI ids x).getD 0]!]!)).length + 1) (((nodes.take i).map (fun x : Int => ids[X0[(atI ids x).getD 0]!]!)).map I ++ [I z]) → Rw lo 2 1 w v ((nodes.take (i + 1)).map (fun x : Int => ids[X0[(atI ids x).getD 0]!]!)).length (((nodes.take (i + 1)).map (fun x : Int => ids[X0[(atI ids x).getD 0]!]!)).map I)) := fun lo w v h => by
                  rw [hTK, List.length_append, List.map_append]
                  exact h
                obtain ⟨O, hO⟩ : ∃ O, O = (nodes.take i).map (fun x : Int => ids[X0[(atI ids x).getD 0]!]!) := ⟨_, rfl⟩
                rw [← hO] at hrow HOL HTK
                obtain ⟨xa, xc, rfl⟩ := Rw.form hrow
                have HCF : Hid (∀ V, G w5 V → V.cell? ⟨lg, q, none⟩ = some (I (f : Int))) := fun V gV => by
                  obtain ⟨cf, -⟩ := (HPF0.out.G gV).row.atN HXL.out hql
                  rw [← hf] at cf
                  exact cf
                obtain ⟨g6, cap6, he6, -, -⟩ := HIR.out.cell (Nat.zero_lt_of_lt hfn)
                obtain ⟨rfl, rfl⟩ : ia = some ⟨g6, 0, none⟩ ∧ ic = cap6 := by simp at he6; exact he6
                have HC6 : Hid (∀ V, G w5 V → V.cell? ⟨g6, f, none⟩ = some (I z)) := fun V gV => by
                  obtain ⟨g7, cap7, he7, -, hc7, -⟩ := (Rw.G HIR.out (HPF0.out.g.trans gV)).cell (Nat.zero_lt_of_lt hfn)
                  have : g6 = g7 := by simp at he7; exact he7.1
                  subst this
                  rw [hc7 f (by rw [Nat.mul_one]; exact hfn), List.getElem?_map, hz]
                  rfl
                have HROW := hide hrow
                have HG6 := hide hg6
                have HIL := hide hil
                clear hi hrow hg6 hil hid hidm hq hql hpl hfn hf hz hTK hO he6
                go_wp2_with fail
                refine HPL.out.mono ?_
                rintro e w7 ⟨rfl, hg7⟩
                have gA : G w7 (w7.alloc (.cells #[I z] 2)) := (G.refl w7).alloc _
                have hr7 := Rw.G HROW.out (hg7.trans gA)
                have cf := HCF.out w7 (HG6.out.trans hg7)
                have c6 := HC6.out w7 (HG6.out.trans hg7)
                obtain ⟨v', w', q1, q2, q3, q4⟩ := app_I (w7.alloc (.cells #[I z] 2)) w5.heap.size (.slice xa O.length xc) O.length (O.map I) hr7 ⟨w7.heap.size, 0, none⟩ 1 1 [I z] rfl (fun j u hj => by rw [Addr.add_mid, Nat.zero_add, (Blk.new w7 [I z] 2).cell]; exact hj) (fun u hu => by simp at hu; subst hu; rfl) (by have := HOL.out; omega) (((HG6.out.trans hg7).trans gA).size)
                have HRUN := hide q1
                have HR8 := hide (HTK.out _ _ _ q2)
                have HG8 : Hid (G w5 w') := (((HG6.out.trans hg7).trans gA).chg (F := fun _ => False)).more q3 (fun i hi e => absurd hi (Nat.not_lt.2 (Rw.own hr7 e).1)) |>.G (fun _ q => q.elim)
                clear q1 q2 q3 q4 gA hr7 hg7 HPL HTK cn
                go_wp2_with (first | (at_builtin; refine wpList_append_run rfl _ _ 23 rfl (.slice xa O.length xc) (.slice (some ⟨w7.heap.size, 0, none⟩) 1 1) rfl rfl HRUN.out ?_) | fail)
                go_roundw
                case rel => (try rw [hwi]); exact ⟨i + 1, _, by simp, rfl, HIL.out, HR8.out, HG8.out⟩
                case measure => (try rw [hwi]); simp only [RowKit.intOf]; exact ms5 HIL.out
              · have hiI : ¬ ((i : Int) < nodes.length) := fun h => hil (Int.ofNat_lt.1 h)
                obtain rfl : i = nodes.length := Nat.le_antisymm hi (Nat.le_of_not_lt hil)
                rw [List.take_length] at hrow
                obtain ⟨O, hO⟩ : ∃ O, O = nodes.map (fun x : Int => ids[X0[(atI ids x).getD 0]!]!) := ⟨_, rfl⟩
                have HPR2 := HPR.out
                rw [← hO] at HPR2 hrow
                obtain ⟨xa, xc, rfl⟩ := Rw.form hrow
                have HF : Hid (RPPost W rs tail ids nodes (.returned (.tuple #[.slice xa O.length xc, I 0, .slice aa ids.length ac])) wr) := ⟨O, 0, ids, _, _, HPR2, rfl, Rw.base hrow HGW.out.size, Rw.G HAR.out (HPF0.out.g.trans hg6), HGW.out.trans hg6⟩
                clear hi hrow hg6 hil hO HPR2
                go_wp2_with fail
                exact bodyPost_ret (v := .tuple #[.slice xa O.length xc, I 0, .slice aa ids.length ac]) (by simp [results, Tryd.results14, go_sem]) rfl HF.out
end Go.Proofs.YtemkilffagjmcaaDoor
