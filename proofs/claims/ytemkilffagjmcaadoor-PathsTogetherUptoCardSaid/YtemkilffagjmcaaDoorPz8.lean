/- Paths: the document's gather. -/
import Derived.Test.YtemkilffagjmcaaDoorPz7
namespace Go.Proofs.YtemkilffagjmcaaDoor
open Go.RowKit

/-- The lists under way. -/
structure Ga (lo : Nat) (w : World) (iv av ov : Value) (ids asked : List Int) (L : List (List Nat)) : Prop where
  ids : Rw lo 2 1 w iv ids.length (ids.map I)
  ask : Rw lo 2 1 w av asked.length (asked.map I)
  dis : ∀ b, iv.ownBlock = some b → av.ownBlock ≠ some b
  arc : ∃ vs : List Value, Rw lo 62 1 w ov L.length vs ∧ ∀ (j : Nat) v l, vs[j]? = some v → L[j]? = some l → Rw lo 3 1 w v l.length (l.map fun (i : Nat) => I (i : Int))
theorem Ga.G {lo : Nat} {w w' : World} {iv av ov : Value} {ids asked : List Int} {L : List (List Nat)} (h : Ga lo w iv av ov ids asked L) (g : Go.Proofs.YtemkilffagjmcaaDoor.G w w') : Ga lo w' iv av ov ids asked L := by
  obtain ⟨vs, h1, h2⟩ := h.arc
  exact ⟨Rw.G h.ids g, Rw.G h.ask g, h.dis, ⟨vs, Rw.G h1 g, fun j v l a b => Rw.G (h2 j v l a b) g⟩⟩
theorem Rw.other {lo lo' : Nat} {e e' : TypeId} {w w' : World} {u v : Value} {n n' : Nat} {xs ys : List Value} (h : Rw lo e 1 w v n xs) (hu : Rw lo' e' 1 w u n' ys) (he : e ≠ e') (c : Chg (fun q => u.ownBlock = some q) w w') : Rw lo e 1 w' v n xs := h.chg c (fun b hb q => by
  obtain ⟨_, _, zs, hz⟩ := Rw.own hu q
  exact Rw.offb h hz he hb)
/-- An id is asked. -/
theorem Ga.more {lo : Nat} {w : World} {iv av ov : Value} {ids asked : List Int} {L : List (List Nat)} (h : Ga lo w iv av ov ids asked L) (hz : lo ≤ w.heap.size) (x : Int) (hb : asked.length ≤ 1048576) :
    ∃ v' w', (Builtin.append_ #[23, 23] 23 #[av, .slice (some ⟨w.heap.size, 0, none⟩) 1 1]).run Tryd.prog (w.alloc (.cells #[I x] 2)) = .ok v' w' ∧ Ga lo w' iv v' ov ids (asked ++ [x]) L ∧ Chg (fun b => lo ≤ b) w w' ∧ (∀ b e xs, Blk w b e xs → e ≠ 2 → Blk w' b e xs) := by
  have gA : Go.Proofs.YtemkilffagjmcaaDoor.G w (w.alloc (.cells #[I x] 2)) := (G.refl w).alloc _
  have hA := h.G gA
  obtain ⟨v', w', q1, q2, q3, q4⟩ := app_I (w.alloc (.cells #[I x] 2)) lo av asked.length (asked.map I) hA.ask ⟨w.heap.size, 0, none⟩ 1 1 [I x] rfl (fun j u hj => by rw [Addr.add_mid, Nat.zero_add, (Blk.new w [I x] 2).cell]; exact hj) (fun u hu => by simp at hu; subst hu; rfl) (by omega) (Nat.le_trans hz gA.size)
  obtain ⟨vs, h1, h2⟩ := hA.arc
  refine ⟨v', w', q1, ⟨Rw.chg hA.ids q3 (fun b hb q => h.dis b hb q), by rw [List.length_append, List.map_append]; exact q2, fun b hb e => ?_, ⟨vs, h1.other hA.ask (by decide) q3, fun j v l a b => (h2 j v l a b).other hA.ask (by decide) q3⟩⟩, (gA.chg).trans (q3.mono (fun b hb => (Rw.own hA.ask hb).1)), fun b e xs hb he => (hb.G gA).chg q3 (Rw.offb hA.ask (hb.G gA) (fun e2 => he e2.symm))⟩
  rcases q4 with q | q
  · exact h.dis b hb (q ▸ e)
  · rw [q] at e
    have := (Rw.own hA.ids hb).2.1
    have e2 := Option.some.inj e
    omega
/-- A list of places is put behind the others. -/
theorem Ga.put {lo : Nat} {w : World} {iv av ov tv : Value} {ids asked : List Int} {L : List (List Nat)} {l : List Nat} (h : Ga lo w iv av ov ids asked L) (hz : lo ≤ w.heap.size) (ht : Rw lo 3 1 w tv l.length (l.map fun (i : Nat) => I (i : Int))) (hb : L.length ≤ 1048576) :
    ∃ v' w', (Builtin.append_ #[59, 59] 59 #[ov, .slice (some ⟨w.heap.size, 0, none⟩) 1 1]).run Tryd.prog (w.alloc (.cells #[tv] 62)) = .ok v' w' ∧ Ga lo w' iv av v' ids asked (L ++ [l]) ∧ Chg (fun b => lo ≤ b) w w' ∧ (∀ b e xs, Blk w b e xs → e ≠ 62 → Blk w' b e xs) := by
  have gA : Go.Proofs.YtemkilffagjmcaaDoor.G w (w.alloc (.cells #[tv] 62)) := (G.refl w).alloc _
  have hA := h.G gA
  have htA := Rw.G ht gA
  obtain ⟨vs, h1, h2⟩ := hA.arc
  obtain ⟨ta', tc', rfl⟩ := Rw.form ht
  obtain ⟨v', w', q1, q2, q3, q4⟩ := app_L (w.alloc (.cells #[.slice ta' l.length tc'] 62)) lo ov L.length vs h1 ⟨w.heap.size, 0, none⟩ 1 1 [.slice ta' l.length tc'] rfl (fun j u hj => by rw [Addr.add_mid, Nat.zero_add, (Blk.new w [.slice ta' l.length tc'] 62).cell]; exact hj) (fun u hu => by simp at hu; subst hu; rfl) (by omega) (Nat.le_trans hz gA.size)
  have hvl : vs.length = L.length := by have := h1.1; omega
  refine ⟨v', w', q1, ⟨hA.ids.other h1 (by decide) q3, hA.ask.other h1 (by decide) q3, h.dis, ⟨vs ++ [.slice ta' l.length tc'], by rw [List.length_append]; exact q2, fun j v l' hj hl => ?_⟩⟩, (gA.chg).trans (q3.mono (fun b hb => (Rw.own h1 hb).1)), fun b e xs hb he => (hb.G gA).chg q3 (Rw.offb h1 (hb.G gA) (fun e2 => he e2.symm))⟩
  by_cases hjl : j < vs.length
  · rw [List.getElem?_append_left hjl] at hj
    rw [List.getElem?_append_left (by omega)] at hl
    exact (h2 j v l' hj hl).other h1 (by decide) q3
  · have hj0 : j = vs.length := by
      have := (List.getElem?_eq_some_iff.1 hj).1
      simp at this
      omega
    subst hj0
    simp at hj
    rw [hvl] at hl
    simp at hl
    subst hj hl
    exact htA.other h1 (by decide) q3
/-- What gather tells. -/
def GPost (W : World) (rs : List Nr) (tail : Bool) (ids : List Int) (e : Ending) (W' : World) : Prop := G W W' ∧
  ((4096 < ids.length ∧ e = .returned (.tuple #[.slice none 0 0, .slice none 0 0, I 92, .slice none 0 0])) ∨
   (ids.length ≤ 4096 ∧ ∃ (k : Nat) (id : Int) (av : Value), ids[k]? = some id ∧ (netOf rs tail id).2 ≠ 0 ∧ (∀ (j : Nat) id', j < k → ids[j]? = some id' → (netOf rs tail id').2 = 0) ∧ e = .returned (.tuple #[.slice none 0 0, .slice none 0 0, I (netOf rs tail id).2, av]) ∧ Rw W.heap.size 2 1 W' av (ids.take (k + 1)).length ((ids.take (k + 1)).map I)) ∨
   (ids.length ≤ 4096 ∧ (∀ id ∈ ids, (netOf rs tail id).2 = 0) ∧ ∃ iv ov av, e = .returned (.tuple #[iv, ov, I 0, av]) ∧ Ga W.heap.size W' iv av ov ids ids (ids.map fun id => insL (atI ids) (netOf rs tail id).1)))
set_option maxRecDepth 100000 in
set_option maxHeartbeats 4000000 in
theorem gather_any (W : World) (rv : Value) (rs : List Nr) (tail : Bool) (hN : Nrs W rv rs) (hrl : rs.length ≤ 1048576) (hal : ∀ id, (netOf rs tail id).1.length ≤ 1048576) (v : Value) (nodes : List Int) (hI : Ids W v nodes) (hnl : nodes.length ≤ 1048576) :
    Calls Tryd.prog 23 #[.agg #[rv, .bool tail], v] W (GPost W rs tail (eachL nodes)) := by
  obtain ⟨rva, rvc, hrv⟩ : ∃ a c, rv = .slice a rs.length c := by obtain ⟨a, c, e, _⟩ := hN; exact ⟨a, c, e⟩
  subst hrv
  obtain ⟨la, lc, rfl⟩ : ∃ la lc, v = .slice la nodes.length lc := by obtain ⟨a, c, e, -⟩ := hI.at_; exact ⟨a, c, e⟩
  obtain ⟨w0, hw0⟩ : ∃ w0, w0 = W.alloc (.cells #[.slice rva rs.length rvc, .bool tail] 26) := ⟨_, rfl⟩
  obtain ⟨nb, hnb⟩ : ∃ nb, nb = W.heap.size := ⟨_, rfl⟩
  have g0 : G W w0 := by rw [hw0]; exact (G.refl W).alloc _
  have HB0 : Hid (Blk w0 nb 26 [.slice rva rs.length rvc, .bool tail]) := by rw [hw0, hnb]; exact Blk.new W [.slice rva rs.length rvc, .bool tail] 26
  have HEA := hide (each_any w0 _ nodes (hI.G g0) hnl)
  obtain ⟨ids, hids⟩ : ∃ ids, ids = eachL nodes := ⟨_, rfl⟩
  rw [← hids] at HEA
  rw [← hids]
  have HUP : Hid (ids.Pairwise (· < ·)) := by rw [hids]; exact eachL_up nodes
  have HR64 : Hid (∀ a ∈ ids, R64 a) := fun a ha => hI.ok a (by rw [hids] at ha; exact eachL_mem.1 ha)
  have HIL : Hid (ids.length ≤ 1048576) := by rw [hids]; exact Nat.le_trans (eachL_len nodes) hnl
  have HG0 := hide g0
  have HN := hide hN
  have HAL := hide hal
  rw [hw0] at HEA
  clear g0 hN hal hI hnl hids
  go_enter Tryd.func23, Tryd.ntmps23
  go_wp2_with fail
  refine HEA.out.mono ?_
  rw [← hw0, ← hnb]
  clear hw0 hnb HEA
  rintro e w1 ⟨iv, rfl, hiv, hg1⟩
  obtain ⟨ia, ic, rfl⟩ := Rw.form hiv
  have HIV : Hid (Rw W.heap.size 2 1 w1 (.slice ia ids.length ic) ids.length (ids.map I)) := Rw.base hiv HG0.out.size
  have HG1 := hide (HG0.out.trans hg1)
  have HB1 := hide (HB0.out.G hg1)
  clear hiv hg1
  by_cases h4 : 4096 < ids.length
  · have h4I : (4096 : Int) < ids.length := Int.ofNat_lt.2 h4
    have h4d : decide ((4096 : Int) < ids.length) = true := decide_eq_true h4I
    have H4 := hide h4
    clear h4
    go_wp2_with fail
    exact bodyPost_ret (v := .tuple #[.slice none 0 0, .slice none 0 0, I 92, .slice none 0 0]) (by simp [results, Tryd.results23, go_sem]) rfl ⟨HG1.out, .inl ⟨H4.out, rfl⟩⟩
  · have h4I : ¬ ((4096 : Int) < ids.length) := nsl _ _ h4
    have h4d : decide ((4096 : Int) < ids.length) = false := decide_eq_false h4I
    have H4 : Hid (ids.length ≤ 4096) := Nat.le_of_not_lt h4
    clear h4
    go_wp2_with fail
    go_loopw [9, 10, 11] (fun av ov kv wr => ∃ (i : Nat) (av' ov' : Value), kv = I i ∧ av = av' ∧ ov = ov' ∧ i ≤ ids.length ∧ Ga W.heap.size wr (.slice ia ids.length ic) av' ov' ids (ids.take i) ((ids.take i).map fun id => insL (atI ids) (netOf rs tail id).1) ∧ G W wr ∧ Blk wr nb 26 [.slice rva rs.length rvc, .bool tail] ∧ ∀ (j : Nat) id', j < i → ids[j]? = some id' → (netOf rs tail id').2 = 0) (fun _ _ kv _ => ids.length - (RowKit.intOf kv).toNat)
    case atStart => exact ⟨0, _, _, rfl, rfl, rfl, Nat.zero_le _, ⟨HIV.out, Rw.nil _ _ _ _, fun b _ e => (by simp [Value.ownBlock] at e), ⟨[], Rw.nil _ _ _ _, fun j v l h => by simp at h⟩⟩, HG1.out, HB1.out, fun j id' h => absurd h (by omega)⟩
    case round =>
      obtain ⟨i, av, ov, rfl, rfl, rfl, hi, hga, hg, hb, hcd⟩ := hrel
      obtain ⟨L, hL⟩ : ∃ L, L = (ids.take i).map fun id => insL (atI ids) (netOf rs tail id).1 := ⟨_, rfl⟩
      obtain ⟨A1, hA1⟩ : ∃ A1, A1 = ids.take i := ⟨_, rfl⟩
      rw [← hL, ← hA1] at hga
      have HLE := hide hL
      have HA1 := hide hA1
      have HA1L : Hid (A1.length ≤ 1048576) := by rw [hA1]; exact Nat.le_trans (by rw [List.length_take]; exact Nat.min_le_right _ _) HIL.out
      have HLEL : Hid (L.length ≤ 1048576) := by rw [hL, List.length_map]; exact Nat.le_trans (by rw [List.length_take]; exact Nat.min_le_right _ _) HIL.out
      clear hL hA1
      obtain ⟨aa, ac, rfl⟩ := Rw.form hga.ask
      obtain ⟨vs, hvs, -⟩ := hga.arc
      obtain ⟨oa, oc, rfl⟩ := Rw.form hvs
      clear hvs
      by_cases hil : i < ids.length
      · have hiI : (i : Int) < ids.length := Int.ofNat_lt.2 hil
        obtain ⟨id, hid⟩ : ∃ id, ids[i]? = some id := ⟨_, List.getElem?_eq_getElem hil⟩
        obtain ⟨g, cap, hee, -, hce, -⟩ := hga.ids.cell (by omega)
        obtain ⟨rfl, rfl⟩ : ia = some ⟨g, 0, none⟩ ∧ ic = cap := by simp at hee; exact hee
        have ci : wr.cell? ⟨g, i, none⟩ = some (I id) := by rw [hce i (by omega), List.getElem?_map, hid]; rfl
        have htk : ids.take (i + 1) = ids.take i ++ [id] := by rw [List.take_add_one, hid]; rfl
        have hwi : wrap64 ((i : Int) + 1) = (i : Int) + 1 := wone5 i (Nat.le_trans (Nat.le_of_lt hil) (Nat.le_trans HIL.out (by decide)))
        obtain ⟨v3, w4, hrun, hga4, hch4, hbk4⟩ := hga.more hg.size id HA1L.out
        obtain ⟨A2, hA2⟩ : ∃ A2, A2 = A1 ++ [id] := ⟨_, rfl⟩
        rw [← hA2] at hga4
        have HA2 : Hid (A2 = ids.take (i + 1)) := by show _ = _; rw [hA2, HA1.out, htk]
        clear hA2
        have hg4 : G W w4 := ((hg.chg (F := fun _ => False)).more hch4 (fun b hb e => by omega)).G (fun _ q => q.elim)
        have hb4 := hbk4 nb _ _ hb (by decide)
        have HR := hide (HR64.out id (List.mem_of_getElem? hid))
        obtain ⟨l, hl⟩ : ∃ l, l = (netOf rs tail id).1 := ⟨_, rfl⟩
        obtain ⟨code, hc⟩ : ∃ code, code = (netOf rs tail id).2 := ⟨_, rfl⟩
        have HLL : Hid (l.length ≤ 1048576) := by rw [hl]; exact HAL.out id
        have HOF := hide (of_any W w4.drew (.slice rva rs.length rvc) rs tail id HN.out (hg4.trans (G.drew (G.refl _))) HR.out hrl)
        rw [← hl, ← hc] at HOF
        have HL := hide hl
        have HC := hide hc
        have HALL : Hid (∀ V, G w4 V → (fun V => (∀ o, V.cell? ⟨nb, o, none⟩ = ([.slice rva rs.length rvc, .bool tail] : List Value)[o]?) ∧ V.cell? ⟨g, i, none⟩ = some (I id)) V) := fun V gV => by
          refine ⟨(hb4.G gV).cell, ?_⟩
          obtain ⟨g', cap', eg, -, hcg, -⟩ := (Rw.G hga4.ids gV).cell (by omega)
          have : g = g' := by simp at eg; exact eg.1
          subst this
          rw [hcg i (by omega), List.getElem?_map, hid]
          rfl
        obtain ⟨a3, c3, rfl⟩ := Rw.form hga4.ask
        have HRUN := hide hrun
        have HGA4 := hide hga4
        have HGW := hide hg4
        have HB4 := hide hb4
        have HI := hide hil
        have HID := hide hid
        have HTK := hide htk
        have HCD := hide hcd
        clear hi hga hg hb hcd hil hid hee hce htk hrun hga4 hch4 hbk4 hg4 hb4 hl hc
        go_wp2_with (first | (at_builtin; refine wpList_append_run rfl _ _ 23 rfl (.slice aa A1.length ac) (.slice (some ⟨wr.heap.size, 0, none⟩) 1 1) rfl rfl HRUN.out ?_) | fail)
        clear ci HRUN
        refine wp_region_noPanic ?_
        refine wp_region_held_drew (S := (fun V => (∀ o, V.cell? ⟨nb, o, none⟩ = ([.slice rva rs.length rvc, .bool tail] : List Value)[o]?) ∧ V.cell? ⟨g, i, none⟩ = some (I id))) (by kernel_rfl) (HALL.out _ (G.drew (G.refl _))) (fun hHeld => ?_)
        refine wpAnyH_take (i := 0) (v := ?_) rfl (by kernel_rfl) (by kernel_rfl) (by kernel_rfl) (fun _ _ _ h => h) (Or.inl ⟨by rfl, ?_⟩) hHeld ?_
        rotate_left 1
        · (intro w hSw; obtain ⟨q1, q2⟩ := hSw; go_simp; try with_reducible rfl)
        try simp only [Act.put, List.getElem_toArray, List.getElem_cons_zero, List.setIfInBounds_toArray, List.set_cons_zero, List.set_cons_succ]
        refine wpAnyH_take (i := 1) (v := ?_) rfl (by kernel_rfl) (by kernel_rfl) (by kernel_rfl) (fun _ _ _ h => h) (Or.inl ⟨by rfl, ?_⟩) hHeld ?_
        rotate_left 1
        · (intro w hSw; obtain ⟨q1, q2⟩ := hSw; go_simp; try with_reducible rfl)
        try simp only [Act.put, List.getElem_toArray, List.getElem_cons_zero, List.getElem_cons_succ, List.setIfInBounds_toArray, List.set_cons_zero, List.set_cons_succ]
        refine wpAnyH_take (i := 2) (v := ?_) rfl (by kernel_rfl) (by kernel_rfl) (by kernel_rfl) (fun _ _ _ h => h) (Or.inl ⟨by rfl, ?_⟩) hHeld ?_
        rotate_left 1
        · (intro w hSw; obtain ⟨q1, q2⟩ := hSw; go_simp; try with_reducible rfl)
        try simp only [Act.put, List.getElem_toArray, List.getElem_cons_zero, List.getElem_cons_succ, List.setIfInBounds_toArray, List.set_cons_zero, List.set_cons_succ]
        refine wpAnyH_take (i := 3) (v := ?_) rfl (by kernel_rfl) (by kernel_rfl) (by kernel_rfl) (fun _ _ _ h => h) (Or.inl ⟨by rfl, ?_⟩) hHeld ?_
        rotate_left 1
        · (intro w hSw; obtain ⟨q1, q2⟩ := hSw; go_simp; try with_reducible rfl)
        try simp only [Act.put, List.getElem_toArray, List.getElem_cons_zero, List.getElem_cons_succ, List.setIfInBounds_toArray, List.set_cons_zero, List.set_cons_succ]
        refine wpAnyH_take (i := 4) (v := ?_) rfl (by kernel_rfl) (by kernel_rfl) (by kernel_rfl) (fun _ _ _ h => h) (Or.inl ⟨by rfl, ?_⟩) hHeld ?_
        rotate_left 1
        · (intro w hSw; obtain ⟨q1, q2⟩ := hSw; go_simp; try with_reducible rfl)
        try simp only [Act.put, List.getElem_toArray, List.getElem_cons_zero, List.getElem_cons_succ, List.setIfInBounds_toArray, List.set_cons_zero, List.set_cons_succ]
        refine wpAnyH_ready (rs := [5]) (by kernel_rfl) (by simp) (AllReadyH.cons rfl (fun K hK => ?_) AllReadyH.nil)
        clear hHeld
        go_simp
        refine HOF.out.mono ?_
        rintro e w5 ⟨lv, rfl, hax, hg5⟩
        have HG5 := hide (G.trans (G.drew (G.refl w4)) hg5)
        have har := hax.arcs ((HGW.out.trans (G.drew (G.refl w4))).trans hg5)
        obtain ⟨la5, lc5, rfl⟩ : ∃ la lc, lv = .slice la l.length lc := by obtain ⟨q1, q2, q3, -⟩ := har.at_; exact ⟨q1, q2, q3⟩
        have HA5 := hide har
        clear hax hg5 har
        go_wp2_with fail
        refine hK.out _ _ (HALL.out _ HG5.out) (fun hHeld => ?_)
        clear hK K
        try simp only [Act.put, List.getElem_toArray, List.getElem_cons_zero, List.getElem_cons_succ, List.setIfInBounds_toArray, List.set_cons_zero, List.set_cons_succ]
        refine wpAnyH_take (i := 6) (v := ?_) rfl (by kernel_rfl) (by kernel_rfl) (by kernel_rfl) (fun _ _ _ h => h) (Or.inl ⟨by rfl, ?_⟩) hHeld ?_
        rotate_left 1
        · (intro w hSw; (try dsimp only at hSw); go_simp; try with_reducible rfl)
        try simp only [Act.put, List.getElem_toArray, List.getElem_cons_zero, List.getElem_cons_succ, List.setIfInBounds_toArray, List.set_cons_zero, List.set_cons_succ]
        refine wpAnyH_take (i := 7) (v := ?_) rfl (by kernel_rfl) (by kernel_rfl) (by kernel_rfl) (fun _ _ _ h => h) (Or.inl ⟨by rfl, ?_⟩) hHeld ?_
        rotate_left 1
        · (intro w hSw; (try dsimp only at hSw); go_simp; try with_reducible rfl)
        try simp only [Act.put, List.getElem_toArray, List.getElem_cons_zero, List.getElem_cons_succ, List.setIfInBounds_toArray, List.set_cons_zero, List.set_cons_succ]
        refine wpAnyH_take (i := 8) (v := ?_) rfl (by kernel_rfl) (by kernel_rfl) (by kernel_rfl) (fun _ _ _ h => h) (Or.inl ⟨by rfl, ?_⟩) hHeld ?_
        rotate_left 1
        · (intro w hSw; (try dsimp only at hSw); go_simp; try with_reducible rfl)
        try simp only [Act.put, List.getElem_toArray, List.getElem_cons_zero, List.getElem_cons_succ, List.setIfInBounds_toArray, List.set_cons_zero, List.set_cons_succ]
        refine wpAnyH_take (i := 9) (v := ?_) rfl (by kernel_rfl) (by kernel_rfl) (by kernel_rfl) (fun _ _ _ h => h) (Or.inl ⟨by rfl, ?_⟩) hHeld ?_
        rotate_left 1
        · (intro w hSw; (try dsimp only at hSw); go_simp; try with_reducible rfl)
        try simp only [Act.put, List.getElem_toArray, List.getElem_cons_zero, List.getElem_cons_succ, List.setIfInBounds_toArray, List.set_cons_zero, List.set_cons_succ]
        refine wpAnyH_take (i := 10) (v := ?_) rfl (by kernel_rfl) (by kernel_rfl) (by kernel_rfl) (fun _ _ _ h => h) (Or.inl ⟨by rfl, ?_⟩) hHeld ?_
        rotate_left 1
        · (intro w hSw; (try dsimp only at hSw); go_simp; try with_reducible rfl)
        try simp only [Act.put, List.getElem_toArray, List.getElem_cons_zero, List.getElem_cons_succ, List.setIfInBounds_toArray, List.set_cons_zero, List.set_cons_succ]
        refine wpAnyH_done (by kernel_rfl) ?_ _
        refine NoPanic.normal ?_
        clear HOF HALL
        have HGA5 := hide (HGA4.out.G HG5.out)
        have HB5 := hide (HB4.out.G HG5.out)
        have HGW5 := hide (HGW.out.trans HG5.out)
        clear HGA4 HB4 HGW HG5
        by_cases hc0 : code = 0
        · subst hc0
          go_wp2_with fail
          obtain ⟨wo, rfl⟩ : ∃ wo, wo = wr := ⟨_, rfl⟩
          go_loopw [14, 15] (fun lv jv w6 => ∃ (j : Nat) (lv' : Value), jv = I j ∧ lv = lv' ∧ j ≤ l.length ∧ Rw w5.heap.size 3 1 w6 lv' (insL (atI ids) (l.take j)).length ((insL (atI ids) (l.take j)).map fun (i : Nat) => I (i : Int)) ∧ G w5 w6) (fun _ jv _ => l.length - (RowKit.intOf jv).toNat)
          case atStart => exact ⟨0, _, rfl, rfl, Nat.zero_le _, Rw.nil _ _ _ _, by first | exact G.refl _ | exact g_drewN _ _⟩
          case round =>
            obtain ⟨j, lv, rfl, rfl, hj, hrow, hg6⟩ := hrel
            obtain ⟨ta', tc', rfl⟩ := Rw.form hrow
            by_cases hjl : j < l.length
            · have hjI : (j : Int) < l.length := Int.ofNat_lt.2 hjl
              obtain ⟨⟨ye, yt, yw⟩, hy⟩ : ∃ y, l[j]? = some y := ⟨_, List.getElem?_eq_getElem hjl⟩
              obtain ⟨-, ab, aoff, rfl, -, y2, -, -⟩ := (HA5.out.G hg6).get hy
              simp only at y2
              have hwj : wrap64 ((j : Int) + 1) = (j : Int) + 1 := wone5 j (Nat.le_trans (Nat.le_of_lt hjl) (Nat.le_trans HLL.out (by decide)))
              have HTJ := hide (insL_take (g := atI ids) hy)
              have HPL := hide (place_any W.heap.size wr _ ids (Rw.G HGA5.out.ids hg6) HUP.out HIL.out yt)
              have HLB : Hid ((insL (atI ids) (l.take j)).length ≤ 1048576) := Nat.le_trans (insL_len _ _) (Nat.le_trans (by rw [List.length_take]; exact Nat.min_le_right _ _) HLL.out)
              have HROW := hide hrow
              have HG6 := hide hg6
              have HJL := hide hjl
              clear hj hrow hg6 hjl hy
              go_wp2_with fail
              refine HPL.out.mono ?_
              rintro e w7 ⟨rfl, hg7⟩
              have HG7 := hide (HG6.out.trans hg7)
              have HROW7 := hide (Rw.G HROW.out hg7)
              clear hg7 HPL y2 HG6 HROW
              cases hgt : atI ids yt with
              | none =>
                have hpl : plI ids yt = -1 := by unfold plI; rw [hgt]
                simp only [hgt] at HTJ
                rw [hpl]
                have HROW8 : Hid (Rw w5.heap.size 3 1 w7 (.slice ta' (insL (atI ids) (l.take j)).length tc') (insL (atI ids) (l.take (j + 1))).length ((insL (atI ids) (l.take (j + 1))).map fun (i : Nat) => I (i : Int))) := by
                  show Rw _ _ _ _ _ _ _
                  rw [HTJ.out]
                  simpa using HROW7.out
                clear hgt hpl
                go_wp2_with fail
                go_roundw
                case rel => (try rw [hwj]); exact ⟨j + 1, _, by simp, rfl, HJL.out, HROW8.out, HG7.out⟩
                case measure => (try rw [hwj]); simp only [RowKit.intOf]; exact ms5 HJL.out
              | some q =>
                have hpl : plI ids yt = (q : Int) := by unfold plI; rw [hgt]
                simp only [hgt] at HTJ
                rw [hpl]
                have hq0 : (0 : Int) ≤ q := Int.natCast_nonneg q
                have hq0d : decide ((0 : Int) ≤ q) = true := decide_eq_true hq0
                have gA : G w7 (w7.alloc (.cells #[I (q : Int)] 3)) := (G.refl w7).alloc _
                obtain ⟨v', w', q1, q2, q3, q4⟩ := app_N (w7.alloc (.cells #[I (q : Int)] 3)) w5.heap.size (.slice ta' (insL (atI ids) (l.take j)).length tc') (insL (atI ids) (l.take j)).length ((insL (atI ids) (l.take j)).map fun (i : Nat) => I (i : Int)) (Rw.G HROW7.out gA) ⟨w7.heap.size, 0, none⟩ 1 1 [I (q : Int)] rfl (fun i u hj => by rw [Addr.add_mid, Nat.zero_add, (Blk.new w7 [I (q : Int)] 3).cell]; exact hj) (fun u hu => by simp at hu; subst hu; rfl) (by have := HLB.out; omega) ((HG7.out.trans gA).size)
                have HRUN := hide q1
                have HROW8 : Hid (Rw w5.heap.size 3 1 w' v' (insL (atI ids) (l.take (j + 1))).length ((insL (atI ids) (l.take (j + 1))).map fun (i : Nat) => I (i : Int))) := by
                  show Rw _ _ _ _ _ _ _
                  rw [HTJ.out]
                  simpa using q2
                have HG8 : Hid (G w5 w') := ((HG7.out.trans gA).chg (F := fun _ => False)).more q3 (fun i hi e => by have := (Rw.own HROW7.out e).1; omega) |>.G (fun _ q => q.elim)
                clear q1 q2 q3 q4 gA hgt hpl
                go_wp2_with (first | (at_builtin; refine wpList_append_run rfl _ _ 62 rfl (.slice ta' (insL (atI ids) (l.take j)).length tc') (.slice (some ⟨w7.heap.size, 0, none⟩) 1 1) rfl rfl HRUN.out ?_) | fail)
                go_roundw
                case rel => (try rw [hwj]); exact ⟨j + 1, _, by simp, rfl, HJL.out, HROW8.out, HG8.out⟩
                case measure => (try rw [hwj]); simp only [RowKit.intOf]; exact ms5 HJL.out
            · have hjI : ¬ ((j : Int) < l.length) := nsl j _ hjl
              obtain rfl : j = l.length := Nat.le_antisymm hj (Nat.le_of_not_lt hjl)
              rw [List.take_length] at hrow ⊢
              obtain ⟨v9, w9, hrun9, hga9, hch9, hbk9⟩ := (HGA5.out.G hg6).put (Nat.le_trans HGW5.out.size hg6.size) (Rw.base hrow HGW5.out.size) HLEL.out
              have HRUN := hide hrun9
              have hgW : G W w9 := (((HGW5.out.trans hg6).chg (F := fun _ => False)).more hch9 (fun b hb e => by omega)).G (fun _ q => q.elim)
              have HREL : Hid (∃ (i' : Nat) (av' ov' : Value), I ((i : Int) + 1) = I i' ∧ (Value.slice a3 A2.length c3) = av' ∧ v9 = ov' ∧ i' ≤ ids.length ∧ Ga W.heap.size w9 (.slice (some ⟨g, 0, none⟩) ids.length ic) av' ov' ids (ids.take i') ((ids.take i').map fun id => insL (atI ids) (netOf rs tail id).1) ∧ G W w9 ∧ Blk w9 nb 26 [.slice rva rs.length rvc, .bool tail] ∧ ∀ (j : Nat) id', j < i' → ids[j]? = some id' → (netOf rs tail id').2 = 0) := by
                refine ⟨i + 1, _, _, by simp, rfl, rfl, HI.out, ?_, hgW, hbk9 nb _ _ (HB5.out.G hg6) (by decide), fun j id' hj hid' => ?_⟩
                · have e2 : ((ids.take (i + 1)).map fun id => insL (atI ids) (netOf rs tail id).1) = ((ids.take i).map fun id => insL (atI ids) (netOf rs tail id).1) ++ [insL (atI ids) l] := by rw [HTK.out, List.map_append, HL.out]; rfl
                  rw [e2, ← HLE.out, ← HA2.out]
                  exact hga9
                · by_cases hjk : j < i
                  · exact HCD.out j id' hjk hid'
                  · have : j = i := by omega
                    subst this
                    rw [HID.out] at hid'
                    cases hid'
                    exact HC.out.symm
              clear hj hrow hg6 hjl hrun9 hga9 hch9 hbk9 hgW
              go_wp2_with (first | (at_builtin; refine wpList_append_run rfl _ _ 59 rfl (.slice oa L.length oc) (.slice (some ⟨wr.heap.size, 0, none⟩) 1 1) rfl rfl HRUN.out ?_) | fail)
              go_roundw
              case rel => (try rw [hwi]); exact HREL.out
              case measure => (try rw [hwi]); simp only [RowKit.intOf]; exact ms5 HI.out
        · have hcb : (code != 0) = true := by simpa using hc0
          have hcb2 : (code == 0) = false := beq_eq_false_iff_ne.2 hc0
          have HC0 := hide hc0
          clear hc0
          go_wp2_with fail
          exact bodyPost_ret (v := .tuple #[.slice none 0 0, .slice none 0 0, I code, .slice a3 A2.length c3]) (by simp [results, Tryd.results23, go_sem]) rfl ⟨HGW5.out, .inr (.inl ⟨H4.out, i, id, _, HID.out, by rw [← HC.out]; exact HC0.out, HCD.out, by rw [← HC.out], by rw [← HA2.out]; exact HGA5.out.ask⟩)⟩
      · have hiI : ¬ ((i : Int) < ids.length) := nsl i _ hil
        obtain rfl : i = ids.length := Nat.le_antisymm hi (Nat.le_of_not_lt hil)
        have hA1 := HA1.out
        have hLE := HLE.out
        rw [List.take_length] at hA1 hLE
        have HF : Hid (GPost W rs tail ids (.returned (.tuple #[.slice ia ids.length ic, .slice oa L.length oc, I 0, .slice aa A1.length ac])) wr) := ⟨hg, .inr (.inr ⟨H4.out, fun id hid => by
          obtain ⟨j, hj, rfl⟩ := List.getElem_of_mem hid
          exact hcd j _ hj (List.getElem?_eq_getElem hj), _, _, _, rfl, by rw [← hLE]; rw [hA1] at hga ⊢; exact hga⟩)⟩
        clear hi hga hg hb hcd hil hA1 hLE
        go_wp2_with fail
        exact bodyPost_ret (by simp [results, Tryd.results23, go_sem]) rfl HF.out
end Go.Proofs.YtemkilffagjmcaaDoor
