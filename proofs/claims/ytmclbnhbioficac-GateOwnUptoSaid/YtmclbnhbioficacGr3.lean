/- The document's gate: End, Picked, Next. -/
import Derived.Test.YtmclbnhbioficacGr2
namespace Go.Proofs.Ytmclbnhbioficac
open Go.RowKit
set_option maxRecDepth 100000 in
set_option maxHeartbeats 1000000 in
theorem rend_no (b : Nat) (m : GM) (K : Nat → Prop) (W : World) (h : RG W b m K) (hv : Iv m) (id : Int) (y : Bool) (hk : id ∉ m.ids) :
    Calls Try.prog 22 #[ptr b, I id, .bool y] W fun e W' => e = .returned (I 152) ∧ W' = W := by
  obtain ⟨vq, vi, h⟩ := h
  have hc := h.cells
  have hcr := hv.crowd
  have KI := hide (at_no m.ins vi id W h.i hk (by omega))
  clear h hv hcr hk
  go_enter Try.func22, Try.ntmps22
  go_wp2_with (first | (go_at_call 37; with_reducible refine KI.out.mono ?_; rintro e w9 ⟨rfl, e9⟩; rw [e9]; clear e9 w9) | fail)
  go_ret
  exact ⟨rfl, rfl⟩
set_option maxRecDepth 100000 in
set_option maxHeartbeats 1000000 in
theorem rend_yes (b : Nat) (m : GM) (K : Nat → Prop) (W : World) (h : RG W b m K) (hv : Iv m) (id : Int) (y : Bool) (k : Nat) (hk : m.ids[k]? = some id) :
    Calls Try.prog 22 #[ptr b, I id, .bool y] W fun e W' => e = .returned (I 0) ∧ ∃ K', RG W' b (m.gone k (if y = true then m.lg + 1 else m.lg)) K' ∧ Ste K W K' W' := by
  obtain ⟨vq, vi, h⟩ := h
  have hc := h.cells
  have hcr := hv.crowd
  have hki : k < m.ins.length := by simpa using (List.getElem?_eq_some_iff.1 hk).1
  have ni : (m.ins.map (·.1.1)).Nodup := (List.nodup_append.1 hv.nd).1
  have KI := hide (at_yes m.ins vi id k W h.i hk (nd_first ni hk) (by omega))
  have KW := hide (without_any m.ins vi k W h.i hki (by omega))
  have hkn : ¬ ((k : Int) < 0) := by omega
  have HLG : Hid (wrap64 (m.lg + 1) = m.lg + 1) := by
    show _ = _
    have a1 := hv.lg0
    have a2 := hv.room
    have a3 := hv.un2
    unfold wrap64
    omega
  have HH := hide h
  clear h hv hcr hk hki ni
  go_enter Try.func22, Try.ntmps22
  go_wp2_with (first | (go_at_call 37; with_reducible refine KI.out.mono ?_; rintro e w9 ⟨rfl, e9⟩; rw [e9]; clear e9 w9) | (go_at_call 18; refine Hid.out ?_) | fail)
  unfold Hid
  refine KW.out.mono ?_
  rintro e w2 ⟨v2, rfl, hs2, hg2, hf2⟩
  obtain ⟨a2, c2, e2⟩ := hs2.form
  generalize (cutL m.ins k).length = n2 at e2
  subst e2
  have h2 := HH.out.G hg2
  have hc2 := h2.cells
  have hz2 := h2.blk.frozen
  have H3 : Hid (∀ lg, RGx (w2.setCell ⟨b, 7, none⟩ (Value.slice a2 n2 c2)) b { (m.gone k lg) with lg := m.lg } (fun j => K j ∨ (Value.slice a2 n2 c2).ownBlock = some j) vq (Value.slice a2 n2 c2) ∧ Ste K W (fun j => K j ∨ (Value.slice a2 n2 c2).ownBlock = some j) (w2.setCell ⟨b, 7, none⟩ (Value.slice a2 n2 c2))) := fun lg => by
    refine ⟨⟨h2.blk.set 7 _, h2.q.off (h2.q.ne h2.blk (by decide)), hs2.off (hs2.ne h2.blk (by decide)), fun j e q => Nat.not_le.2 (HH.out.q.lt e) (hf2 j q), .inl h2.kb, fun j e => .inl (h2.kq j e), fun j e => .inr e, fun j e => ?_⟩, ⟨hg2.chg.trans (chg_setCell _ _ (.inl h2.kb)), fun j e => e.elim .inl (fun q => .inr (hf2 j q))⟩⟩
    rcases e with e | e
    · simpa using h2.lt j e
    · simpa using hs2.lt e
  clear hs2 hg2 hf2 HH KI KW hkn hc
  have HK := hide h2.kb
  clear h2
  cases y with
  | true =>
    have h3 := (H3.out (m.lg + 1)).1
    have H5 : Hid (RG ((w2.setCell ⟨b, 7, none⟩ (Value.slice a2 n2 c2)).setCell ⟨b, 2, none⟩ (I (m.lg + 1))) b (m.gone k (m.lg + 1)) (fun j => K j ∨ (Value.slice a2 n2 c2).ownBlock = some j) ∧ Ste K W (fun j => K j ∨ (Value.slice a2 n2 c2).ownBlock = some j) ((w2.setCell ⟨b, 7, none⟩ (Value.slice a2 n2 c2)).setCell ⟨b, 2, none⟩ (I (m.lg + 1)))) := ⟨⟨vq, (Value.slice a2 n2 c2), h3.field (m' := m.gone k (m.lg + 1)) 2 _ rfl rfl rfl⟩, (H3.out m.lg).2.trans (h3.ste 2 _)⟩
    have hlg := HLG.out
    clear h3 H3
    go_wp2_with fail
    go_ret
    exact ⟨rfl, _, H5.out⟩
  | false =>
    have H5 : Hid (RG (w2.setCell ⟨b, 7, none⟩ (Value.slice a2 n2 c2)) b (m.gone k m.lg) (fun j => K j ∨ (Value.slice a2 n2 c2).ownBlock = some j) ∧ Ste K W (fun j => K j ∨ (Value.slice a2 n2 c2).ownBlock = some j) (w2.setCell ⟨b, 7, none⟩ (Value.slice a2 n2 c2))) := ⟨⟨vq, (Value.slice a2 n2 c2), (H3.out m.lg).1⟩, (H3.out m.lg).2⟩
    clear H3
    go_wp2_with fail
    go_ret
    exact ⟨rfl, _, H5.out⟩
theorem rend_any (b : Nat) (m : GM) (K : Nat → Prop) (W : World) (id : Int) (y : Bool) (h : RG W b m K) (hv : Iv m) :
    Calls Try.prog 22 #[ptr b, I id, .bool y] W fun e W' => e = .returned (I (m.endA id)) ∧ ∃ K', RG W' b (m.endM id y) K' ∧ Ste K W K' W' := by
  unfold GM.endA GM.endM
  by_cases h1 : id ∈ m.ids
  · rw [if_pos h1, if_pos h1]
    exact rend_yes b m K W h hv id y _ (idx_get h1)
  · rw [if_neg h1, if_neg h1]
    refine (rend_no b m K W h hv id y h1).mono fun e W' ⟨he, hw⟩ => ?_
    subst hw
    exact ⟨he, K, h, Ste.refl _ _⟩
/-- The last turn of one alone is stored. -/
theorem SwO.last {w : World} {g n cap : Nat} {l : List It} (h : SwO w (.slice (some ⟨g, 0, none⟩) n cap) l) (i : Nat) (hi : i < l.length) (c : Int) : SwO (w.setCell ⟨g, i * 3 + 2, none⟩ (I c)) (.slice (some ⟨g, 0, none⟩) n cap) (l.set i (l[i]!.1, c)) := by
  obtain ⟨rfl, rest, hb, hr⟩ := h.open
  refine .inr ⟨g, cap, rest, by rw [List.length_set], ?_, by rw [List.length_set]; exact hr⟩
  have h1 := hb.set (i * 3 + 2) (I c)
  have hl : (eT.fl l).length = l.length * 3 := Enc.len eT l
  have e0 : ∀ q : List It, eT.fl q = Go.Proofs.Ytmclbnhbioficac.fl q := fun _ => rfl
  rw [e0] at h1 hl
  rw [e0]
  obtain ⟨e1, e2, -⟩ := fl_get l i _ (Hp.get_o hi)
  rw [fl_set l i _ hi, set_same e1, set_same e2]
  rw [List.set_append_left _ _ (by omega)] at h1
  exact h1
set_option maxRecDepth 100000 in
set_option maxHeartbeats 1000000 in
theorem rpick_no (b : Nat) (m : GM) (K : Nat → Prop) (W : World) (h : RG W b m K) (hv : Iv m) (id : Int) (h0 : id ≠ 0) (hk : id ∉ m.ids) :
    Calls Try.prog 28 #[ptr b, I id] W fun e W' => e = .returned (I 152) ∧ W' = W := by
  obtain ⟨vq, vi, h⟩ := h
  have hc := h.cells
  have hz := h.blk.frozen
  have hcr := hv.crowd
  have ni : (m.ins.map (·.1.1)).Nodup := (List.nodup_append.1 hv.nd).1
  have KI := hide (at_no m.ins vi id W h.i hk (by omega))
  have hid0 : (id != 0) = true := bne_iff_ne.2 h0
  clear h hv hcr hk ni hz h0
  go_enter Try.func28, Try.ntmps28
  go_wp2_with (first | (go_at_call 37; with_reducible refine KI.out.mono ?_; rintro e w9 ⟨rfl, e9⟩; rw [e9]; clear e9 w9) | fail)
  go_ret
  exact ⟨rfl, rfl⟩
set_option maxRecDepth 100000 in
set_option maxHeartbeats 1000000 in
theorem rpick_0 (b : Nat) (m : GM) (K : Nat → Prop) (W : World) (h : RG W b m K) (hv : Iv m) (hck : m.ck < 4611686018427387904) :
    Calls Try.prog 28 #[ptr b, I 0] W fun e W' => e = .returned (I 0) ∧ ∃ K', RG W' b m.pick0 K' ∧ Ste K W K' W' := by
  obtain ⟨vq, vi, h⟩ := h
  have hc := h.cells
  have hz := h.blk.frozen
  have hcr := hv.crowd
  have ni : (m.ins.map (·.1.1)).Nodup := (List.nodup_append.1 hv.nd).1
  have KI := hide (at_any m.ins vi 0 W h.i ni (by omega))
  have hw : wrap64 (m.ck + 1) = m.ck + 1 := by have := hv.ck0; unfold wrap64; omega
  have h1 := h.field (m' := { m with ck := m.ck + 1 }) 3 (I (m.ck + 1)) rfl rfl rfl
  have H2 := hide (And.intro (h1.field (m' := m.pick0) 4 (I (m.ck + 1)) rfl rfl rfl) ((h.ste 3 (I (m.ck + 1))).trans (h1.ste 4 (I (m.ck + 1)))))
  have hc1 : ∀ o, (W.setCell ⟨b, 3, none⟩ (I (m.ck + 1))).cell? ⟨b, o, none⟩ = ([I m.mo, I m.un, I m.lg, I (m.ck + 1), I m.sw, I m.sp, vq, vi] : List Value)[o]? := h1.blk.cell
  generalize atI m.ins 0 = na at KI
  clear h hv hcr ni hck h1
  go_enter Try.func28, Try.ntmps28
  go_wp2_with (first | (go_at_call 37; with_reducible refine KI.out.mono ?_; rintro e w9 ⟨rfl, e9⟩; rw [e9]; clear e9 w9) | fail)
  go_ret
  exact ⟨rfl, K, ⟨vq, vi, H2.out.1⟩, H2.out.2⟩
set_option maxRecDepth 100000 in
set_option maxHeartbeats 1000000 in
theorem rpick_yes (b : Nat) (m : GM) (K : Nat → Prop) (W : World) (h : RG W b m K) (hv : Iv m) (hck : m.ck < 4611686018427387904) (id : Int) (k : Nat) (hk : m.ids[k]? = some id) :
    Calls Try.prog 28 #[ptr b, I id] W fun e W' => e = .returned (I 0) ∧ ∃ K', RG W' b (m.pick k) K' ∧ Ste K W K' W' := by
  obtain ⟨vq, vi, h⟩ := h
  have hc := h.cells
  have hz := h.blk.frozen
  have hcr := hv.crowd
  have ni : (m.ins.map (·.1.1)).Nodup := (List.nodup_append.1 hv.nd).1
  have hki : k < m.ins.length := by simpa using (List.getElem?_eq_some_iff.1 hk).1
  have hmem : id ∈ m.ids := List.mem_of_getElem? hk
  have hid0 : (id != 0) = true := bne_iff_ne.2 (by have := hv.ids id (List.mem_append_left _ hmem); omega)
  have hid1 : (id == 0) = false := by simpa using hid0
  have KI := hide (at_yes m.ins vi id k W h.i hk (nd_first ni hk) (by omega))
  have hkn : ¬ ((k : Int) < 0) := by omega
  have hw : wrap64 (m.ck + 1) = m.ck + 1 := by have := hv.ck0; unfold wrap64; omega
  obtain ⟨g, cap, ei⟩ := h.i.slice (by omega)
  have H1 := hide (h.field (m' := { m with ck := m.ck + 1 }) 3 (I (m.ck + 1)) rfl rfl rfl)
  have HS := hide (h.ste 3 (I (m.ck + 1)))
  rw [ei] at hc KI H1
  have HKI := hide hki
  clear h hv hcr ni hck hk hmem hki ei
  go_enter Try.func28, Try.ntmps28
  go_wp2_with (first | (go_at_call 37; with_reducible refine KI.out.mono ?_; rintro e w9 ⟨rfl, e9⟩; rw [e9]; clear e9 w9) | fail)
  clear hc hz
  generalize W.setCell ⟨b, 3, none⟩ (I (m.ck + 1)) = w1 at H1 HS ⊢
  have h1 := H1.out
  have hc1 : ∀ o, w1.cell? ⟨b, o, none⟩ = ([I m.mo, I m.un, I m.lg, I (m.ck + 1), I m.sw, I m.sp, vq, .slice (some ⟨g, 0, none⟩) m.ins.length cap] : List Value)[o]? := h1.blk.cell
  have i1 : (k : Int) < m.ins.length := by have := HKI.out; omega
  obtain ⟨-, rest, hb, -⟩ := h1.i.open
  have hgz := hb.frozen
  have hx := h1.i.at (i := k) (Hp.get_o HKI.out) 2 (by decide)
  have x3 : w1.cell? ⟨g, k * 3 + 2, none⟩ = some (I m.ins[k]!.2) := hx
  have hgb : g ≠ b := fun e => h1.i.ne h1.blk (by decide) (by rw [e]; rfl)
  have H2 : Hid (RGx ((w1.setCell ⟨g, k * 3 + 2, none⟩ (I (m.ck + 1))).drew) b (m.pick k) K vq (.slice (some ⟨g, 0, none⟩) m.ins.length cap) ∧ Ste K w1 K (w1.setCell ⟨g, k * 3 + 2, none⟩ (I (m.ck + 1))).drew) := by
    refine ⟨⟨(h1.blk.off (fun e => hgb e.symm)).drew, ?_, (h1.i.last k HKI.out (m.ck + 1)).drew, h1.ap, h1.kb, h1.kq, h1.ki, fun j e => by simpa using h1.lt j e⟩, ⟨(chg_setCell _ _ (.inl (h1.ki g rfl))).trans (chg_drew _), fun _ q => .inl q⟩⟩
    exact (h1.q.off (fun e => h1.ap g e rfl)).drew
  generalize m.ins[k]!.2 = z at x3
  clear h1 H1 hb hx HKI KI hid0 hkn hw rest
  go_wp2_with fail
  go_region
  generalize (w1.setCell ⟨g, k * 3 + 2, none⟩ (I (m.ck + 1))).drew = w2 at H2 ⊢
  clear x3 hc1 hgz
  go_wp2_with fail
  go_ret
  exact ⟨rfl, K, ⟨vq, _, H2.out.1⟩, HS.out.trans H2.out.2⟩
theorem rpicked_call (b : Nat) (m : GM) (K : Nat → Prop) (W : World) (id : Int) (h : RG W b m K) (hv : Iv m) (hck : m.ck < 4611686018427387904) :
    Calls Try.prog 28 #[ptr b, I id] W fun e W' => e = .returned (I (m.pickA id)) ∧ ∃ K', RG W' b (m.pickM id) K' ∧ Ste K W K' W' := by
  unfold GM.pickA GM.pickM
  by_cases h0 : id = 0
  · subst h0
    rw [if_pos (.inl rfl), if_pos rfl]
    exact rpick_0 b m K W h hv hck
  · rw [if_neg h0]
    by_cases h1 : id ∈ m.ids
    · rw [if_pos (.inr h1), if_pos h1]
      exact rpick_yes b m K W h hv hck id _ (idx_get h1)
    · rw [if_neg (by simp [h0, h1]), if_neg h1]
      refine (rpick_no b m K W h hv id h0 h1).mono fun e W' ⟨he, hw⟩ => ?_
      subst hw
      exact ⟨he, K, h, Ste.refl _ _⟩
/-- The best of the first i. -/
def Best (m : GM) (i : Nat) (x : It) : Prop := x ∈ ((0, m.sp + 1), m.sw) :: m.ins.take i ∧ ∀ y ∈ ((0, m.sp + 1), m.sw) :: m.ins.take i, gr y x = false
theorem Best.zero (m : GM) : Best m 0 ((0, m.sp + 1), m.sw) := ⟨by simp, fun y hy => by simp at hy; subst hy; unfold gr; simp⟩
theorem Best.no {m : GM} {i : Nat} {x y : It} (h : Best m i x) (hy : m.ins[i]? = some y) (hg : gr y x = false) : Best m (i + 1) x := by
  have e : m.ins.take (i + 1) = m.ins.take i ++ [y] := by rw [List.take_add_one, hy]; rfl
  refine ⟨by rw [e, ← List.cons_append]; exact List.mem_append_left _ h.1, fun z hz => ?_⟩
  rw [e, ← List.cons_append] at hz
  rcases List.mem_append.1 hz with q | q
  · exact h.2 z q
  · simp at q; subst q; exact hg
theorem Best.yes {m : GM} {i : Nat} {x y : It} (h : Best m i x) (hy : m.ins[i]? = some y) (hg : gr y x = true) : Best m (i + 1) y := by
  have e : m.ins.take (i + 1) = m.ins.take i ++ [y] := by rw [List.take_add_one, hy]; rfl
  refine ⟨by rw [e, ← List.cons_append]; exact List.mem_append_right _ (by simp), fun z hz => ?_⟩
  rw [e, ← List.cons_append] at hz
  rcases List.mem_append.1 hz with q | q
  · cases hb : gr z y
    · rfl
    · have h1 := gr_wo.tr _ _ _ hb hg
      rw [h.2 z q] at h1
      cases h1
  · simp at q; subst q
    cases hb : gr z z
    · rfl
    · have := gr_wo.asy _ _ hb; rw [hb] at this; exact this
theorem gr_sw1 {m : GM} {y : It} (h : y.1.2 ≤ m.sp) (hs : m.sp < 4611686018427387904) : gr y (swp m) = gr y ((0, m.sp + 1), m.sw) := by
  unfold gr swp
  by_cases q : y.2 = m.sw
  · simp [q]; omega
  · simp [q]
theorem gr_sw2 {m : GM} {y : It} (h : y.1.2 ≤ m.sp) (hs : m.sp < 4611686018427387904) : gr (swp m) y = gr ((0, m.sp + 1), m.sw) y := by
  unfold gr swp
  by_cases q : m.sw = y.2
  · simp [q]; omega
  · simp [q]
theorem Best.next {m : GM} {x : It} (hv : Iv m) (hs : m.sp < 4611686018427387904) (h : Best m m.ins.length x) : NextR m x.1.1 := by
  have e : m.ins.take m.ins.length = m.ins := List.take_of_length_le (Nat.le_refl _)
  unfold Best at h
  rw [e] at h
  have hin : ∀ z ∈ m.ins, z.1.2 ≤ m.sp := fun z hz => (hv.sps _ (List.mem_append_left _ (List.mem_map.2 ⟨z, hz, rfl⟩))).2
  obtain ⟨h1, h2⟩ := h
  rcases List.mem_cons.1 h1 with rfl | hx
  · refine ⟨swp m, List.mem_cons_self, fun y hy => ?_, rfl⟩
    rcases List.mem_cons.1 hy with rfl | hy
    · unfold gr; simp
    · have a := h2 y (List.mem_cons_of_mem _ hy)
      have b := hin y hy
      rw [gr_sw1 b hs]
      exact a
  · refine ⟨x, List.mem_cons_of_mem _ hx, fun y hy => ?_, rfl⟩
    rcases List.mem_cons.1 hy with rfl | hy
    · have a := h2 _ List.mem_cons_self
      have b := hin x hx
      rw [gr_sw2 b hs]
      exact a
    · exact h2 y (List.mem_cons_of_mem _ hy)
set_option maxRecDepth 100000 in
set_option maxHeartbeats 1000000 in
theorem rnext_any (b : Nat) (m : GM) (K : Nat → Prop) (W : World) (h : RG W b m K) (hv : Iv m) (hs : m.sp < 4611686018427387904) :
    Calls Try.prog 26 #[ptr b] W fun e W' => ∃ n, e = .returned (I n) ∧ NextR m n ∧ G W W' := by
  obtain ⟨vq, vi, h⟩ := h
  obtain ⟨a, c, ei⟩ := h.i.form
  have hc := h.cells
  rw [ei] at hc
  have hcr := hv.crowd
  have hw : wrap64 (m.sp + 1) = m.sp + 1 := by have := hv.sp0; unfold wrap64; omega
  have HS := hide h
  have HM : Hid (m.ins.length ≤ 64) := by show _ ≤ _; omega
  have HV := hide hv
  have HSP := hide hs
  have HEI := hide ei
  clear h hv hs hcr ei
  go_enter Try.func26, Try.ntmps26
  go_wp2_with fail
  rw [hw]
  clear hw
  go_loopw [6, 3, 4, 5] (fun iv a3 a4 a5 wr => ∃ (i : Nat) (x : It), iv = I i ∧ a3 = I x.1.1 ∧ a4 = I x.2 ∧ a5 = I x.1.2 ∧ i ≤ m.ins.length ∧ Best m i x ∧ G W wr) (fun iv _ _ _ _ => m.ins.length - (RowKit.intOf iv).toNat)
  case atStart => exact ⟨0, _, rfl, rfl, rfl, rfl, Nat.zero_le _, Best.zero m, G.refl _⟩
  case round =>
    obtain ⟨i, x, rfl, rfl, rfl, rfl, hik, hb, hg⟩ := hrel
    obtain ⟨⟨xi, xs⟩, xl⟩ := x
    have hcr : ∀ o, wr.cell? ⟨b, o, none⟩ = ([I m.mo, I m.un, I m.lg, I m.ck, I m.sw, I m.sp, vq, .slice a m.ins.length c] : List Value)[o]? := by have := (HS.out.G hg).cells; rw [HEI.out] at this; exact this
    have HG := hide hg
    have HB := hide hb
    by_cases hil : i < m.ins.length
    · obtain ⟨y, hy⟩ : ∃ y, m.ins[i]? = some y := ⟨_, List.getElem?_eq_getElem hil⟩
      have hsi : SwO wr (.slice a m.ins.length c) m.ins := by have := (HS.out.G hg).i; rw [HEI.out] at this; exact this
      obtain ⟨g, cap, q⟩ := hsi.slice (by omega)
      injection q with q1 q2 q3
      subst q1 q3
      obtain ⟨⟨yi, ys⟩, yl⟩ := y
      have x1 : wr.cell? ⟨g, i * 3, none⟩ = some (I yi) := hsi.at hy 0 (by decide)
      have x2 : wr.cell? ⟨g, i * 3 + 1, none⟩ = some (I ys) := hsi.at hy 1 (by decide)
      have x3 : wr.cell? ⟨g, i * 3 + 2, none⟩ = some (I yl) := hsi.at hy 2 (by decide)
      have i1 : (i : Int) < m.ins.length := Int.ofNat_lt.2 hil
      have hbl : b < wr.heap.size := (HS.out.G hg).blk.lt
      have HW : Hid (wrap64 ((i : Int) + 1) = (i : Int) + 1) := by show _ = _; have := HM.out; unfold wrap64; omega
      have HIL := hide hil
      have HA := hide (hg.alloc (.cells #[I yi, I ys, I yl] 65))
      by_cases c1 : yl < xl
      · have HN : Hid (Best m (i + 1) ((yi, ys), yl)) := HB.out.yes hy (by unfold gr; rw [if_neg (by simp only; omega)]; exact decide_eq_true c1)
        clear hik hil hy q2 hg hb hsi
        go_wp2_with fail
        rw [HW.out]
        go_roundw
        case rel => exact ⟨i + 1, ((yi, ys), yl), rfl, rfl, rfl, rfl, HIL.out, HN.out, HA.out⟩
        case measure => simp only [RowKit.intOf]; have := HIL.out; omega
      · by_cases c2 : yl = xl
        · by_cases c3 : ys < xs
          · have HN : Hid (Best m (i + 1) ((yi, ys), yl)) := HB.out.yes hy (by unfold gr; rw [if_pos (by simp only; omega)]; exact decide_eq_true c3)
            have d2 : (yl == xl) = true := beq_iff_eq.2 c2
            clear hik hil hy q2 hg hb hsi c2
            go_wp2_with fail
            rw [HW.out]
            go_roundw
            case rel => exact ⟨i + 1, ((yi, ys), yl), rfl, rfl, rfl, rfl, HIL.out, HN.out, HA.out⟩
            case measure => simp only [RowKit.intOf]; have := HIL.out; omega
          · have HN : Hid (Best m (i + 1) ((xi, xs), xl)) := HB.out.no hy (by unfold gr; rw [if_pos (by simp only; omega)]; exact decide_eq_false c3)
            have d2 : (yl == xl) = true := beq_iff_eq.2 c2
            clear hik hil hy q2 hg hb hsi c2
            go_wp2_with fail
            rw [HW.out]
            go_roundw
            case rel => exact ⟨i + 1, ((xi, xs), xl), rfl, rfl, rfl, rfl, HIL.out, HN.out, HA.out⟩
            case measure => simp only [RowKit.intOf]; have := HIL.out; omega
        · have HN : Hid (Best m (i + 1) ((xi, xs), xl)) := HB.out.no hy (by unfold gr; rw [if_neg (by simp only; omega)]; exact decide_eq_false c1)
          have d2 : (yl == xl) = false := beq_eq_false_iff_ne.2 c2
          clear hik hil hy q2 hg hb hsi c2
          go_wp2_with fail
          rw [HW.out]
          go_roundw
          case rel => exact ⟨i + 1, ((xi, xs), xl), rfl, rfl, rfl, rfl, HIL.out, HN.out, HA.out⟩
          case measure => simp only [RowKit.intOf]; have := HIL.out; omega
    · have i1 : ¬ ((i : Int) < m.ins.length) := by omega
      have e1 : i = m.ins.length := by omega
      rw [e1] at hb
      have HN := hide (hb.next HV.out HSP.out)
      clear hik hil hb e1 hg
      go_wp2_with fail
      go_ret
      exact ⟨xi, rfl, HN.out, HG.out⟩
end Go.Proofs.Ytmclbnhbioficac
