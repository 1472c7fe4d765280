/- Wire: the document's graph, read. -/
import Derived.Test.YtcdjjmjhdoanlaaDoorW49
namespace Go.Proofs.YtcdjjmjhdoanlaaDoor
open Go.RowKit

/-- While a list is read into a struct's field, behind i elements. S: what the whole gives; Ψ: what is known of how it goes on. -/
def LR {α β : Type} (D : Nst α) (q : List Nat → Option (α × List Nat)) (n : Nat) (S : Option (β × List Nat)) (Ψ : World → (List α → List Nat → Option (β × List Nat)) → Prop) (wr : World) (i : Nat) (s' : Option (List Nat)) (rs : List (Raw D.s)) : Prop :=
  (s' = none ∧ S = none) ∨ ∃ (r : List Nat) (xs : List α) (K : List α → List Nat → Option (β × List Nat)), s' = some r ∧ n ≤ 2097152 ∧ xs.length = i ∧ (∀ (j : Nat) (c : Raw D.s) (x : α), rs[j]? = some c → xs[j]? = some x → D.r wr c.1 x) ∧ Ψ wr K ∧ S = (prep q (n - i) r).bind fun y => K (xs ++ y.1) y.2
theorem LR.step {α β : Type} {D : Nst α} {q : List Nat → Option (α × List Nat)} {n : Nat} {S : Option (β × List Nat)} {Ψ : World → (List α → List Nat → Option (β × List Nat)) → Prop} {wr w1 w5 : World} {i : Nat} {r : List Nat} {rs : List (Raw D.s)} {c : Raw D.s} {X : List Nat} (h : LR D q n S Ψ wr i (some r) rs) (hlt : i < n) (hl : rs.length = i) (k : Kx X wr w5) (k2 : Kx X w1 w5) (hD : ∀ t ∈ D.tys, t ∉ X) (hΨ : ∀ K, Ψ wr K → Ψ w5 K) (hx : ∀ x l', q r = some (x, l') → D.r w1 c.1 x) : LR D q n S Ψ w5 (i + 1) (((some r).bind q).map (·.2)) (rs ++ [c]) := by
  rcases h with ⟨h, _⟩ | ⟨r', xs, K, e, n21, hxs, hr, hK, hS⟩
  · cases h
  cases e
  show (((q r).map (·.2)) = none ∧ _) ∨ _
  rw [show n - i = (n - (i + 1)) + 1 by omega] at hS
  cases e : q r with
  | none => exact .inl ⟨rfl, by rw [hS]; exact prepB_stop q K _ r xs e⟩
  | some y =>
    obtain ⟨x, r4⟩ := y
    refine .inr ⟨r4, xs ++ [x], K, by show (q r).map _ = _; rw [e]; rfl, n21, by simp [hxs], ?_, hΨ K hK, by rw [hS]; exact prepB_step q K _ r r4 x xs e⟩
    exact nrow_step (fun j c' x' e1 e2 => D.keep k hD (hr j c' x' e1 e2)) (by rw [hl, hxs]) (D.keep k2 hD (hx x r4 e))
theorem LR.fin {α β : Type} {D : Nst α} {q : List Nat → Option (α × List Nat)} {n : Nat} {S : Option (β × List Nat)} {Ψ : World → (List α → List Nat → Option (β × List Nat)) → Prop} {wr : World} {i : Nat} {s' : Option (List Nat)} {rs : List (Raw D.s)} {ty : TypeId} {v : Value} (h : LR D q n S Ψ wr i s' rs) (hq : s' = none ∨ i = n) (hl : rs.length = i) (ho : Sw (eR D.s) ty wr v rs) : (s' = none ∧ S = none) ∨ ∃ (r : List Nat) (xs : List α) (K : List α → List Nat → Option (β × List Nat)), s' = some r ∧ NRow D ty wr v xs ∧ Ψ wr K ∧ S = K xs r := by
  rcases h with h | ⟨r, xs, K, e, n21, hxs, hr, hK, hS⟩
  · exact .inl h
  rcases hq with q | ei
  · subst e; cases q
  · refine .inr ⟨r, xs, K, e, ⟨rs, ho, by omega, hr⟩, hK, ?_⟩
    rw [hS, ei, Nat.sub_self, prep]; simp
/-- The list's count is read. -/
theorem LR.start {α β : Type} {D : Nst α} {q : List Nat → Option (α × List Nat)} {S : Option (β × List Nat)} {Ψ : World → (List α → List Nat → Option (β × List Nat)) → Prop} {N b : Nat} {u w w2 : World} {s2 : Option (List Nat)} {e : Ending}
    (h : RetP N pn (fun _ v x => v = I x) (fun _ v => v = I 0) b u s2 e w2) (hr : (s2 = none ∧ S = none) ∨ ∃ r K, s2 = some r ∧ Ψ u K ∧ S = (pl q r).bind fun y => K y.1 y.2) (hΨ : ∀ K, Ψ u K → Ψ w2 K) (hc : Cb b w u) :
    ∃ (n : Nat) (s3 : Option (List Nat)), e = .returned (I n) ∧ Cb b w w2 ∧ Cb b u w2 ∧ Rc N w2 b s3 ∧ LR D q n S Ψ w2 0 s3 [] := by
  obtain ⟨v2, he, hd2, hcase⟩ := h
  rcases hr with ⟨rfl, hn⟩ | ⟨r, K, rfl, hK, hS⟩
  · rcases hcase with ⟨n, l', hp, _⟩ | ⟨hp, hs3, hv⟩
    · cases hp
    · exact ⟨0, none, by rw [he, hv]; rfl, hc.trans hd2, hd2, hs3, .inl ⟨rfl, hn⟩⟩
  · have hS' : S = ((some r).bind (pl q)).bind fun y => K y.1 y.2 := hS
    rw [pl_pn] at hS'
    rcases hcase with ⟨n, l', hp, hs3, hv⟩ | ⟨hp, hs3, hv⟩
    · refine ⟨n, some l', by rw [he, hv], hc.trans hd2, hd2, hs3, .inr ⟨l', [], K, rfl, ?_, rfl, fun j c x e => by simp at e, hΨ K hK, by rw [hS', hp]; rfl⟩⟩
      have h1 := rc_len hs3
      have := pn_le hp; omega
    · exact ⟨0, none, by rw [he, hv]; rfl, hc.trans hd2, hd2, hs3, .inl ⟨rfl, by rw [hS', hp]; rfl⟩⟩
/-- A struct is read. -/
theorem Pt9.done {β : Type} {N b : Nat} {w u : World} {s : Option (List Nat)} {p : List Nat → Option (β × List Nat)} {rb : Nat} {T : TypeId} {cs : List Value} {Φ : World → List Nat → Prop} {R : World → β → Prop} (h : Pt9 N b w s p rb T cs Φ u) (hΦ : ∀ r, Φ u r → ∃ x, s.bind p = some (x, r) ∧ R u x) : Rc N u b ((s.bind p).map (·.2)) ∧ Cb b w u ∧ Blk u rb T cs ∧ ∀ x l', s.bind p = some (x, l') → R u x := by
  obtain ⟨s', hs, hc, hB, hr⟩ := h
  rcases hr with ⟨rfl, q⟩ | ⟨r, rfl, q⟩
  · rw [q]; exact ⟨hs, hc, hB, fun x l' e => by cases e⟩
  · obtain ⟨x, q1, q2⟩ := hΦ r q
    rw [q1]
    exact ⟨hs, hc, hB, fun y l' e => by cases e; exact q2⟩
/-- A graph, read. -/
def pgr (l : List Nat) : Option ((List Nd × List Ed) × List Nat) := (pl pnd l).bind fun x => (pl ped x.2).bind fun y => some ((x.1, y.1), y.2)
def KN (xs : List Nd) (r : List Nat) : Option ((List Nd × List Ed) × List Nat) := (pl ped r).bind fun y => some ((xs, y.1), y.2)
theorem pgr_eq (s : Option (List Nat)) (l : List Nat) (h : s = some l) : s.bind pgr = (pl pnd l).bind fun y => KN y.1 y.2 := by rw [h]; rfl
theorem gr_fin {N b rr : Nat} {w wb wo u : World} {s s' : Option (List Nat)} {cs : List Value} (da : Option Addr) (dn dc : Nat) (ea : Option Addr) (en ec : Nat) (hg : G w wb) (hs : Rc N wo b s') (hc : Cb b wb wo) (hq : Blk wo rr 33 cs) (hfin : (s' = none ∧ s.bind pgr = none) ∨ ∃ r x, s' = some r ∧ s.bind pgr = some (x, r) ∧ NRow dN 74 wo (.slice da dn dc) x.1 ∧ NRow dE 79 wo (.slice ea en ec) x.2) (hu : Chg (fun k => k = rr) wo u) (hb : rr ≠ b ∧ w.heap.size ≤ rr ∧ N ≤ rr) : RetF N pgr (fun v => ∃ (da : Option Addr) (dn dc : Nat) (ea : Option Addr) (en ec : Nat), v = .agg #[.slice da dn dc, .slice ea en ec]) (fun u v x => ∀ (da : Option Addr) (dn dc : Nat) (ea : Option Addr) (en ec : Nat), v = .agg #[.slice da dn dc, .slice ea en ec] → NRow dN 74 u (.slice da dn dc) x.1 ∧ NRow dE 79 u (.slice ea en ec) x.2) b w s (.returned (.agg #[.slice da dn dc, .slice ea en ec])) u := by
  have hs9 := hs.far (F := fun k => k = rr) (fun k hk => by subst hk; exact ⟨hb.2.2, hb.1⟩) hu
  refine ⟨_, rfl, ⟨da, dn, dc, ea, en, ec, rfl⟩, (hg.chg.trans hc).more hu (fun k hk e => by omega), ?_⟩
  rcases hfin with ⟨rfl, q⟩ | ⟨r, x, rfl, q, h1, h2⟩
  · rw [q]; exact ⟨hs9, fun x l' e => by cases e⟩
  · rw [q]
    refine ⟨hs9, fun y l' e => ?_⟩
    cases e
    intro y0 y1 y2 y3 y4 y5 ev
    simp only [Value.agg.injEq, Value.slice.injEq, List.cons.injEq, Array.mk.injEq, and_true] at ev
    obtain ⟨⟨rfl, rfl, rfl⟩, rfl, rfl, rfl⟩ := ev
    have kx : Kx [33] wo u := Kx.one hu hq (by simp)
    exact ⟨h1.kx kx (by decide) (by decide), h2.kx kx (by decide) (by decide)⟩
set_option maxRecDepth 100000 in
set_option maxHeartbeats 1000000 in
theorem graph3_any (N : Nat) (w : World) (b : Nat) (s : Option (List Nat)) (h : Rc N w b s) (hN : N ≤ w.heap.size) (hT : TB b w) :
    Calls Tryd.prog 18 #[ptr b] w (RetF N pgr (fun v => ∃ (da : Option Addr) (dn dc : Nat) (ea : Option Addr) (en ec : Nat), v = .agg #[.slice da dn dc, .slice ea en ec]) (fun u v x => ∀ (da : Option Addr) (dn dc : Nat) (ea : Option Addr) (en ec : Nat), v = .agg #[.slice da dn dc, .slice ea en ec] → NRow dN 74 u (.slice da dn dc) x.1 ∧ NRow dE 79 u (.slice ea en ec) x.2) b w s) := by
  obtain ⟨xs0, hb0⟩ := h.blk
  have hbl := hb0.lt
  obtain ⟨wb, hwb⟩ : ∃ wb, wb = w.alloc (.cells #[.slice none 0 0, .slice none 0 0] 33) := ⟨_, rfl⟩
  obtain ⟨u0, hw0⟩ : ∃ u0, u0 = wb.alloc (.cells #[.slice none 0 0, .slice none 0 0] 33) := ⟨_, rfl⟩
  have hG1 : G w wb := by rw [hwb]; exact (G.refl w).alloc _
  have hG2 : G wb u0 := by rw [hw0]; exact (G.refl wb).alloc _
  have hR1 : Blk wb w.heap.size 33 [.slice none 0 0, .slice none 0 0] := by rw [hwb]; exact Blk.new w [.slice none 0 0, .slice none 0 0] _
  obtain ⟨gb, hgb⟩ : ∃ gb, gb = wb.heap.size := ⟨_, rfl⟩
  have hrl := hR1.lt
  have hb1 : Blk u0 gb 33 [.slice none 0 0, .slice none 0 0] := by rw [hw0, hgb]; exact Blk.new wb [.slice none 0 0, .slice none 0 0] _
  have KL := hide (list3_any N u0 b s ((h.G hG1).G hG2))
  have HRL := hide (And.intro ((h.G hG1).G hG2) (And.intro hb1 hG2))
  have HGE : Hid (gb ≠ b ∧ wb.heap.size ≤ gb ∧ N ≤ gb) := ⟨by omega, by omega, by omega⟩
  have HNR : Hid (w.heap.size ≠ b ∧ w.heap.size ≤ w.heap.size ∧ N ≤ w.heap.size) := ⟨by omega, by omega, hN⟩
  have HNB : Hid (N ≤ wb.heap.size) := by show _ ≤ _; omega
  have HTB := hide (hT.G hG1)
  have HR1 := hide (And.intro hG1 hR1)
  have HW : Hid (u0 = (w.alloc (.cells #[.slice none 0 0, .slice none 0 0] 33)).alloc (.cells #[.slice none 0 0, .slice none 0 0] 33)) := by show _ = _; rw [hw0, hwb]
  have HGB : Hid (gb = w.heap.size + 1) := by show _ = _; rw [hgb, hwb]; simp
  clear h hN hT hb0 hbl hw0 hgb hwb hG1 hG2 hR1 hrl hb1
  go_enter Tryd.func18, Tryd.ntmps18
  go_wp2_with fail
  rw [show (w.alloc (.cells #[.slice none 0 0, .slice none 0 0] 33)).alloc (.cells #[.slice none 0 0, .slice none 0 0] 33) = u0 from HW.out.symm]
  try rw [show w.heap.size + 1 = gb from HGB.out.symm]
  refine KL.out.mono ?_
  intro e w2 hcase
  obtain ⟨hs0, hb1, hG2⟩ := HRL.out
  obtain ⟨n, s3, rfl, hc2, hd2, hs3, hlr⟩ := LR.start (D := dN) (q := pnd) (S := s.bind pgr) (Ψ := (fun _ K => K = KN)) (w := wb) hcase (by
    cases s with
    | none => exact .inl ⟨rfl, rfl⟩
    | some l => exact .inr ⟨l, KN, rfl, rfl, rfl⟩) (fun K h => h) hG2.chg
  have HS := hide (And.intro hs3 (And.intro hc2 (And.intro (hb1.chg hd2 HGE.out.1) hlr)))
  clear hcase hs0 hb1 hG2 hc2 hd2 hs3 hlr KL HRL
  go_wp2_with fail
  go_loopw [5] (fun iv wr => ∃ (i : Nat) (s' : Option (List Nat)) (ra : Option Addr) (rn rc : Nat) (rs : List (Raw dN.s)), iv = I i ∧ i ≤ n ∧ Blk wr gb 33 [.slice ra rn rc, .slice none 0 0] ∧ Sw (eR dN.s) 74 wr (.slice ra rn rc) rs ∧ Fresh wb (.slice ra rn rc) ∧ Cb b wb wr ∧ Rc N wr b s' ∧ rs.length = i ∧ LR dN pnd n (s.bind pgr) (fun _ K => K = KN) wr i s' rs) (fun iv _ => n - (RowKit.intOf iv).toNat)
  case atStart =>
    obtain ⟨q1, q2, q3, q4⟩ := HS.out
    exact ⟨0, s3, none, 0, 0, [], rfl, Nat.zero_le _, q3, Sw.nil _ _ _, Fresh.nil _, q2, q1, rfl, q4⟩
  case round =>
    obtain ⟨i, s', ra, rn, rc, rs, rfl, hin, hB, ho, hof, hch, hs, hxl, hrel'⟩ := hrel
    obtain ⟨wo, hwo⟩ : ∃ wo, wo = wr := ⟨_, rfl⟩
    subst hwo
    clear HS
    obtain ⟨p3, n3, c3, b3⟩ := hs.bad
    have k3 := b3.cell
    have HPE : Hid (s' = none ∨ i = n → Rc N wo b s' ∧ Cb b wb wo ∧ Blk wo gb 33 [.slice ra rn rc, .slice none 0 0] ∧ ((s' = none ∧ s.bind pgr = none) ∨ ∃ (r : List Nat) (xs : List Nd) (K : List Nd → List Nat → Option ((List Nd × List Ed) × List Nat)), s' = some r ∧ NRow dN 74 wo (.slice ra rn rc) xs ∧ (fun _ K => K = KN) wo K ∧ s.bind pgr = K xs r)) := fun hq => ⟨hs, hch, hB, LR.fin hrel' hq hxl ho⟩
    by_cases hlt : i < n
    · have i2 : (i : Int) < (n : Int) := by omega
      cases s' with
      | none =>
        have HP := hide (HPE.out (.inl rfl))
        simp only [Option.isNone_none] at k3
        clear hin ho hof hch hs hxl hrel' b3 hlt HPE hB
        obtain ⟨hs9, hc9, hb9, hr9⟩ := HP.out
        have K9 := hide (list3_any N wo b _ hs9)
        have H9 := hide (And.intro hs9 (And.intro hc9 (And.intro hb9 hr9)))
        clear HP hs9 hc9 hb9 hr9
        go_wp2_with fail
        clear k3 i2
        refine K9.out.mono ?_
        intro e w2 hcase
        obtain ⟨hs9, hc9, hb9, hr9⟩ := H9.out
        have kx2 : Kx [49] wo w2 := by obtain ⟨_, _, q, _⟩ := hcase; obtain ⟨_, q2⟩ := hs9.blk; exact Kx.one q q2 (by simp)
        obtain ⟨n, s3, rfl, hc2, hd2, hs3, hlr⟩ := LR.start (D := dE) (q := ped) (S := s.bind pgr) (Ψ := (fun u K => ∃ nodes, NRow dN 74 u (.slice ra rn rc) nodes ∧ K = fun es r => some ((nodes, es), r))) (w := wb) hcase (by
          rcases hr9 with h | ⟨r, xs, K, e, h1, h2, h3⟩
          · first | exact .inl h | exact .inl ⟨rfl, h.2⟩
          · exact .inr ⟨r, fun es r => some ((xs, es), r), e, ⟨xs, h1, rfl⟩, by rw [h3, h2]; rfl⟩) (fun K ⟨nodes, h1, h2⟩ => ⟨nodes, h1.kx kx2 (by decide) (by decide), h2⟩) hc9
        have HS := hide (And.intro hs3 (And.intro hc2 (And.intro (hb9.chg hd2 HGE.out.1) hlr)))
        clear hcase hs9 hc9 hb9 hr9 kx2 hc2 hd2 hs3 hlr K9 H9
        generalize ra = na at HS ⊢
        generalize rn = nn at HS ⊢
        generalize rc = nc at HS ⊢
        go_wp2_with fail
        go_loopw [7] (fun iv wr => ∃ (i : Nat) (s' : Option (List Nat)) (ra : Option Addr) (rn rc : Nat) (rs : List (Raw dE.s)), iv = I i ∧ i ≤ n ∧ Blk wr gb 33 [.slice na nn nc, .slice ra rn rc] ∧ Sw (eR dE.s) 79 wr (.slice ra rn rc) rs ∧ Fresh wb (.slice ra rn rc) ∧ Cb b wb wr ∧ Rc N wr b s' ∧ rs.length = i ∧ LR dE ped n (s.bind pgr) (fun u K => ∃ nodes, NRow dN 74 u (.slice na nn nc) nodes ∧ K = fun es r => some ((nodes, es), r)) wr i s' rs) (fun iv _ => n - (RowKit.intOf iv).toNat)
        case atStart =>
          obtain ⟨q1, q2, q3, q4⟩ := HS.out
          exact ⟨0, s3, none, 0, 0, [], rfl, Nat.zero_le _, q3, Sw.nil _ _ _, Fresh.nil _, q2, q1, rfl, q4⟩
        case round =>
          obtain ⟨i, s', ra, rn, rc, rs, rfl, hin, hB, ho, hof, hch, hs, hxl, hrel'⟩ := hrel
          obtain ⟨wo, hwo⟩ : ∃ wo, wo = wr := ⟨_, rfl⟩
          subst hwo
          clear HS
          obtain ⟨p3, n3, c3, b3⟩ := hs.bad
          have k3 := b3.cell
          have HPE : Hid (s' = none ∨ i = n → Rc N wo b s' ∧ Cb b wb wo ∧ Blk wo gb 33 [.slice na nn nc, .slice ra rn rc] ∧ ((s' = none ∧ s.bind pgr = none) ∨ ∃ (r : List Nat) (xs : List Ed) (K : List Ed → List Nat → Option ((List Nd × List Ed) × List Nat)), s' = some r ∧ NRow dE 79 wo (.slice ra rn rc) xs ∧ (fun u K => ∃ nodes, NRow dN 74 u (.slice na nn nc) nodes ∧ K = fun es r => some ((nodes, es), r)) wo K ∧ s.bind pgr = K xs r)) := fun hq => ⟨hs, hch, hB, LR.fin hrel' hq hxl ho⟩
          by_cases hlt : i < n
          · have i2 : (i : Int) < (n : Int) := by omega
            cases s' with
            | none =>
              have HP := hide (HPE.out (.inl rfl))
              simp only [Option.isNone_none] at k3
              clear hin ho hof hch hs hxl hrel' b3 hlt HPE hB
              obtain ⟨hs9, hc9, hb9, hr9⟩ := HP.out
              have hq9 := HR1.out.2.chg hc9 HNR.out.1
              have c9 := hb9.cell
              have m9 := hq9.cell
              have z9 := hq9.frozen
              have HQ9 := hide hq9
              have HF : Hid (∀ u, Chg (fun k => k = w.heap.size) wo u → RetF N pgr (fun v => ∃ (da : Option Addr) (dn dc : Nat) (ea : Option Addr) (en ec : Nat), v = .agg #[.slice da dn dc, .slice ea en ec]) (fun u v x => ∀ (da : Option Addr) (dn dc : Nat) (ea : Option Addr) (en ec : Nat), v = .agg #[.slice da dn dc, .slice ea en ec] → NRow dN 74 u (.slice da dn dc) x.1 ∧ NRow dE 79 u (.slice ea en ec) x.2) b w s (.returned (.agg #[.slice na nn nc, .slice ra rn rc])) u) := fun u hu => gr_fin na nn nc ra rn rc HR1.out.1 hs9 hc9 hq9 (by
                rcases hr9 with h | ⟨r, xs, K, e, h1, ⟨nodes, h2, h3⟩, h4⟩
                · first | exact .inl h | exact .inl ⟨rfl, h.2⟩
                · exact .inr ⟨r, (nodes, xs), e, by rw [h4, h3], h2, h1⟩) hu HNR.out
              clear hs9 hc9 hb9 hr9 HP hq9
              go_wp2_with fail
              have hC9 := (HQ9.out.set 0 (.slice na nn nc)).set 1 (.slice ra rn rc)
              exact bodyPost_ret_by (v := .agg #[.slice na nn nc, .slice ra rn rc]) (results_cell_row Tryd.results18 _ _ w.heap.size 33 _ (0, 0) _ rfl hC9.h Tryd.underlying33 rfl (by kernel_rfl)) rfl (HF.out _ ((chg_setCell (F := fun k => k = w.heap.size) (b := w.heap.size) (o := 0) _ (.slice na nn nc) (.inl rfl)).trans (chg_setCell (F := fun k => k = w.heap.size) (b := w.heap.size) (o := 1) _ (.slice ra rn rc) (.inl rfl))))
            | some rr =>
              obtain ⟨u0, hw0⟩ : ∃ u0, u0 = wo.alloc (.cells #[I 0, .string { data := #[] }, I 0, I 0, .slice none 0 0] 79) := ⟨_, rfl⟩
              obtain ⟨rb, hrb⟩ : ∃ rb, rb = wo.heap.size := ⟨_, rfl⟩
              have hbl := b3.lt
              have HNW : Hid (N ≤ wo.heap.size) := Nat.le_trans HNB.out hch.size
              have HP : Hid (Pt9 N b wo (some rr) ped rb 79 [I 0, .string { data := #[] }, I 0, I 0, .slice none 0 0] (fun _ r0 => some rr = some r0) u0) := Pt9.start ped hs (by rw [hw0]; exact (G.refl wo).alloc _) (by rw [hw0, hrb]; exact Blk.new wo [I 0, .string { data := #[] }, I 0, I 0, .slice none 0 0] _)
              have HNE : Hid (rb ≠ b ∧ wo.heap.size ≤ rb ∧ N ≤ rb) := ⟨by omega, by omega, by rw [hrb]; exact HNW.out⟩
              have HT := hide (HTB.out.cb hch)
              have HW0 := hide hw0
              have HRX := hide hrb
              have hob : ∀ k, (Value.slice ra rn rc).ownBlock = some k → ¬ k = b := fun k hk e => by subst e; exact ho.ne b3 (by decide) hk
              have HO := hide (And.intro ho (And.intro hof hob))
              have HC := hide (And.intro hch hB)
              have HB3 := hide b3
              have HX := hide (And.intro hxl (And.intro hlt hrel'))
              simp only [Option.isNone_some] at k3
              clear hin ho hof hch hs hxl hrel' b3 hlt hob HPE hB hw0 hrb hbl
              go_wp2_with fail
              rw [show wo.alloc (.cells #[I 0, .string { data := #[] }, I 0, I 0, .slice none 0 0] 79) = u0 from HW0.out.symm]
              try rw [← HRX.out]
              obtain ⟨s13, hs13, hc13, hb13, hr13⟩ := HP.out
              refine (nF3_any N _ b s13 hs13).mono ?_
              rintro e w13 ⟨v13, rfl, ⟨nid, rfl⟩, hd13, hz13, hR13⟩
              have hB13 := hb13.chg hd13 HNE.out.1
              have k13 := hB13.cell
              have f13 := hB13.frozen
              replace HP := hide (Pt9.step (p := ped) (q := pz) (Φ := (fun _ r0 => some rr = some r0)) (R := fun _ x => nid = x ∧ R64 x) hs13 hc13 hr13 HNE.out.2.2 HNE.out.2.1 HNE.out.1 hd13 hz13 (fun x l' e => by have := hR13 x l' e; simp at this; exact this) (chg_setCell (F := fun k => k = rb) (b := rb) (o := 0) _ (I nid) (.inl rfl)) hB13 (hB13.set 0 (I nid)) (fun _ _ _ _ h => h) (fun _ _ _ _ h => h) (fun u r h e => by
                have h0 := h
                cases h0; show ped _ = none; simp [ped, e]))
              clear hs13 hc13 hb13 hr13 hd13 hz13 hR13 hB13
              go_wp2_with fail
              generalize (w13.setCell ⟨rb, 0, none⟩ (I nid)) = u13 at HP ⊢
              clear k13 f13
              obtain ⟨s14, hs14, hc14, hb14, hr14⟩ := HP.out
              refine (tF3_any N _ b s14 hs14).mono ?_
              rintro e w14 ⟨v14, rfl, ⟨lb, rfl, hzlb⟩, hd14, hz14, hR14⟩
              have hB14 := hb14.chg hd14 HNE.out.1
              have k14 := hB14.cell
              have f14 := hB14.frozen
              replace HP := hide (Pt9.step (p := ped) (q := pt) (Φ := (fun u r' => ∃ r x, (fun _ r0 => some rr = some r0) u r ∧ pz r = some (x, r') ∧ (fun _ x => nid = x ∧ R64 x) u x)) (R := fun _ x => lb = x) hs14 hc14 hr14 HNE.out.2.2 HNE.out.2.1 HNE.out.1 hd14 hz14 (fun x l' e => by have := hR14 x l' e; simp at this; exact this) (chg_setCell (F := fun k => k = rb) (b := rb) (o := 1) _ (.string lb) (.inl rfl)) hB14 (hB14.set 1 (.string lb)) (fun u u' r' k ⟨r, x, h1, h2, h3⟩ => ⟨r, x, (fun _ _ _ _ h => h) u u' r k h1, h2, (fun _ _ _ _ h => h) u u' x k h3⟩) (fun _ _ _ _ h => h) (fun u r h e => by
                obtain ⟨r1, x1, h0, e1, g1⟩ := h
                cases h0; show ped _ = none; simp [ped, e1, e]))
              clear hs14 hc14 hb14 hr14 hd14 hz14 hR14 hB14
              go_wp2_with fail
              generalize (w14.setCell ⟨rb, 1, none⟩ (.string lb)) = u14 at HP ⊢
              clear k14 f14
              obtain ⟨s15, hs15, hc15, hb15, hr15⟩ := HP.out
              refine (nF3_any N _ b s15 hs15).mono ?_
              rintro e w15 ⟨v15, rfl, ⟨fr, rfl⟩, hd15, hz15, hR15⟩
              have hB15 := hb15.chg hd15 HNE.out.1
              have k15 := hB15.cell
              have f15 := hB15.frozen
              replace HP := hide (Pt9.step (p := ped) (q := pz) (Φ := (fun u r' => ∃ r x, (fun u r' => ∃ r x, (fun _ r0 => some rr = some r0) u r ∧ pz r = some (x, r') ∧ (fun _ x => nid = x ∧ R64 x) u x) u r ∧ pt r = some (x, r') ∧ (fun _ x => lb = x) u x)) (R := fun _ x => fr = x ∧ R64 x) hs15 hc15 hr15 HNE.out.2.2 HNE.out.2.1 HNE.out.1 hd15 hz15 (fun x l' e => by have := hR15 x l' e; simp at this; exact this) (chg_setCell (F := fun k => k = rb) (b := rb) (o := 2) _ (I fr) (.inl rfl)) hB15 (hB15.set 2 (I fr)) (fun u u' r' k ⟨r, x, h1, h2, h3⟩ => ⟨r, x, (fun u u' r' k ⟨r, x, h1, h2, h3⟩ => ⟨r, x, (fun _ _ _ _ h => h) u u' r k h1, h2, (fun _ _ _ _ h => h) u u' x k h3⟩) u u' r k h1, h2, (fun _ _ _ _ h => h) u u' x k h3⟩) (fun _ _ _ _ h => h) (fun u r h e => by
                obtain ⟨r2, x2, ⟨r1, x1, h0, e1, g1⟩, e2, g2⟩ := h
                cases h0; show ped _ = none; simp [ped, e1, e2, e]))
              clear hs15 hc15 hb15 hr15 hd15 hz15 hR15 hB15
              go_wp2_with fail
              generalize (w15.setCell ⟨rb, 2, none⟩ (I fr)) = u15 at HP ⊢
              clear k15 f15
              obtain ⟨s16, hs16, hc16, hb16, hr16⟩ := HP.out
              refine (nF3_any N _ b s16 hs16).mono ?_
              rintro e w16 ⟨v16, rfl, ⟨tt, rfl⟩, hd16, hz16, hR16⟩
              have hB16 := hb16.chg hd16 HNE.out.1
              have k16 := hB16.cell
              have f16 := hB16.frozen
              replace HP := hide (Pt9.step (p := ped) (q := pz) (Φ := (fun u r' => ∃ r x, (fun u r' => ∃ r x, (fun u r' => ∃ r x, (fun _ r0 => some rr = some r0) u r ∧ pz r = some (x, r') ∧ (fun _ x => nid = x ∧ R64 x) u x) u r ∧ pt r = some (x, r') ∧ (fun _ x => lb = x) u x) u r ∧ pz r = some (x, r') ∧ (fun _ x => fr = x ∧ R64 x) u x)) (R := fun _ x => tt = x ∧ R64 x) hs16 hc16 hr16 HNE.out.2.2 HNE.out.2.1 HNE.out.1 hd16 hz16 (fun x l' e => by have := hR16 x l' e; simp at this; exact this) (chg_setCell (F := fun k => k = rb) (b := rb) (o := 3) _ (I tt) (.inl rfl)) hB16 (hB16.set 3 (I tt)) (fun u u' r' k ⟨r, x, h1, h2, h3⟩ => ⟨r, x, (fun u u' r' k ⟨r, x, h1, h2, h3⟩ => ⟨r, x, (fun u u' r' k ⟨r, x, h1, h2, h3⟩ => ⟨r, x, (fun _ _ _ _ h => h) u u' r k h1, h2, (fun _ _ _ _ h => h) u u' x k h3⟩) u u' r k h1, h2, (fun _ _ _ _ h => h) u u' x k h3⟩) u u' r k h1, h2, (fun _ _ _ _ h => h) u u' x k h3⟩) (fun _ _ _ _ h => h) (fun u r h e => by
                obtain ⟨r3, x3, ⟨r2, x2, ⟨r1, x1, h0, e1, g1⟩, e2, g2⟩, e3, g3⟩ := h
                cases h0; show ped _ = none; simp [ped, e1, e2, e3, e]))
              clear hs16 hc16 hb16 hr16 hd16 hz16 hR16 hB16
              go_wp2_with fail
              generalize (w16.setCell ⟨rb, 3, none⟩ (I tt)) = u16 at HP ⊢
              clear k16 f16
              obtain ⟨s17, hs17, hc17, hb17, hr17⟩ := HP.out
              refine (props3_any N _ b s17 hs17 (Nat.le_trans HNW.out hc17.size) (HT.out.cb hc17)).mono ?_
              rintro e w17 ⟨v17, rfl, ⟨pa, pn, pc, rfl⟩, hd17, hz17, hR17⟩
              have hB17 := hb17.chg hd17 HNE.out.1
              have k17 := hB17.cell
              have f17 := hB17.frozen
              replace HP := hide (Pt9.step (p := ped) (q := (pl ppr)) (Φ := (fun u r' => ∃ r x, (fun u r' => ∃ r x, (fun u r' => ∃ r x, (fun u r' => ∃ r x, (fun _ r0 => some rr = some r0) u r ∧ pz r = some (x, r') ∧ (fun _ x => nid = x ∧ R64 x) u x) u r ∧ pt r = some (x, r') ∧ (fun _ x => lb = x) u x) u r ∧ pz r = some (x, r') ∧ (fun _ x => fr = x ∧ R64 x) u x) u r ∧ pz r = some (x, r') ∧ (fun _ x => tt = x ∧ R64 x) u x)) (R := fun u l => NRow dP 99 u (.slice pa pn pc) l) hs17 hc17 hr17 HNE.out.2.2 HNE.out.2.1 HNE.out.1 hd17 hz17 (fun x l' e => by exact hR17 x l' e) (chg_setCell (F := fun k => k = rb) (b := rb) (o := 4) _ (.slice pa pn pc) (.inl rfl)) hB17 (hB17.set 4 (.slice pa pn pc)) (fun u u' r' k ⟨r, x, h1, h2, h3⟩ => ⟨r, x, (fun u u' r' k ⟨r, x, h1, h2, h3⟩ => ⟨r, x, (fun u u' r' k ⟨r, x, h1, h2, h3⟩ => ⟨r, x, (fun u u' r' k ⟨r, x, h1, h2, h3⟩ => ⟨r, x, (fun _ _ _ _ h => h) u u' r k h1, h2, (fun _ _ _ _ h => h) u u' x k h3⟩) u u' r k h1, h2, (fun _ _ _ _ h => h) u u' x k h3⟩) u u' r k h1, h2, (fun _ _ _ _ h => h) u u' x k h3⟩) u u' r k h1, h2, (fun _ _ _ _ h => h) u u' x k h3⟩) (fun _ _ _ k h => h.kx k (by decide) (by decide)) (fun u r h e => by
                obtain ⟨r4, x4, ⟨r3, x3, ⟨r2, x2, ⟨r1, x1, h0, e1, g1⟩, e2, g2⟩, e3, g3⟩, e4, g4⟩ := h
                cases h0; show ped _ = none; simp [ped, e1, e2, e3, e4, e]))
              clear hs17 hc17 hb17 hr17 hd17 hz17 hR17 hB17
              obtain ⟨hs9, hc9, hb9, hx9⟩ := Pt9.done (R := fun u x => dE.r u [I nid, .string lb, I fr, I tt, .slice pa pn pc] x) HP.out (fun r9 h => by
                obtain ⟨r5, x5, ⟨r4, x4, ⟨r3, x3, ⟨r2, x2, ⟨r1, x1, h0, e1, g1⟩, e2, g2⟩, e3, g3⟩, e4, g4⟩, e5, g5⟩ := h
                cases h0
                refine ⟨⟨x1, x2, x3, x4, x5⟩, ?_, ?_⟩
                · show ped _ = _
                  simp [ped, e1, e2, e3, e4, e5]
                · exact ⟨_, by rw [g1.1, g2, g3.1, g4.1], g5⟩)
              obtain ⟨u9, hu9⟩ : ∃ u9, u9 = (w17.setCell ⟨rb, 4, none⟩ (.slice pa pn pc)) := ⟨_, rfl⟩
              have hb8 := hb9.cell
              rw [← hu9] at hs9 hc9 hb9 hx9
              obtain ⟨ho, hof, hob⟩ := HO.out
              obtain ⟨hch, hB⟩ := HC.out
              have hA := (G.refl u9).alloc (.cells #[I nid, .string lb, I fr, I tt, .slice pa pn pc] 79)
              have ho4 := (ho.chg hc9 hob).G hA
              obtain ⟨i0, hi0, hz0, hz1, hz2⟩ := info_E
              have hmx : (2097153 : Nat) ≤ maxLen := of_decide_eq_true (by kernel_rfl)
              obtain ⟨hxl, hlt, hlr⟩ := HX.out
              have n21 : n ≤ 2097152 := by
                rcases hlr with ⟨q, _⟩ | ⟨_, _, _, _, q, _⟩
                · cases q
                · exact q
              obtain ⟨c, hc⟩ : ∃ c : Raw dE.s, c.1 = [I nid, .string lb, I fr, I tt, .slice pa pn pc] := ⟨⟨[I nid, .string lb, I fr, I tt, .slice pa pn pc], rfl, fun u hu => by simp at hu; rcases hu with rfl | rfl | rfl | rfl | rfl <;> rfl⟩, rfl⟩
              have hlit : Row (eR dE.s).rel (u9.alloc (.cells #[I nid, .string lb, I fr, I tt, .slice pa pn pc] 79)) (.slice (some ⟨u9.heap.size, 0, none⟩) 1 1) [c] := by
                have := Row.lit (E := eR dE.s) u9 79 [c] 1 (by simp)
                rw [show (eR dE.s).fl [c] = [I nid, .string lb, I fr, I tt, .slice pa pn pc] by simp [Enc.fl, hc]] at this
                exact this
              obtain ⟨v5, w5, hr5, hs5, hch5, hob5⟩ := app_row (P := Tryd.prog) (tr := 31) (ns := [c]) i0 _ 64 Tryd.underlying31 hi0 hz0 hz1 hz2 rfl (by decide) ho4 hlit (by simp; omega) (by simp; omega)
              have kx1 : Kx [49, 79] wo u9 := Kx.one hc9 HB3.out (by simp)
              have kx2 : Kx [49, 79] u9 w5 := (Kx.of_G hA).trans (Kx.own hch5 ho4 (by simp))
              have hB9 : Blk u9 gb 33 [.slice na nn nc, .slice ra rn rc] := kx1.blk hB (by decide)
              have hB5 : Blk w5 gb 33 [.slice na nn nc, .slice ra rn rc] := (kx1.trans kx2).blk hB (by decide)
              have hcA : Cb b wb (u9.alloc (.cells #[I nid, .string lb, I fr, I tt, .slice pa pn pc] 79)) := (hch.trans hc9).trans hA.chg
              have hc5 : Cb b wb w5 := hcA.more hch5 (fun k hk q => absurd (hof k q) (by omega))
              have hf5 : Fresh wb v5 := fun k hk => by
                rcases hob5 with q | q
                · rw [q] at hk; exact hof k hk
                · rw [q] at hk; have h1 := Option.some.inj hk; have h2 := hcA.size; omega
              have hsc5 := (hs9.G hA).own (W := wb) (fun k hk => ⟨hof k hk, hob k hk⟩) HNB.out hch5
              obtain ⟨a5, c5, hv5⟩ := hs5.form
              generalize (rs ++ [c]).length = n5 at hv5
              subst hv5
              have h6 : Chg (fun k => k = gb) w5 (w5.setCell ⟨gb, 1, none⟩ (.slice a5 n5 c5)) := chg_setCell w5 _ (.inl rfl)
              have kx3 : Kx [49, 33] w5 (w5.setCell ⟨gb, 1, none⟩ (.slice a5 n5 c5)) := Kx.one h6 hB5 (by simp)
              have kx4 : Kx [49, 79, 33] wo (w5.setCell ⟨gb, 1, none⟩ (.slice a5 n5 c5)) := ((kx1.trans kx2).mono (fun t q => by simp at q ⊢; omega)).trans (kx3.mono (fun t q => by simp at q ⊢; omega))
              have kx5 : Kx [49, 79, 33] u9 (w5.setCell ⟨gb, 1, none⟩ (.slice a5 n5 c5)) := (kx2.mono (fun t q => by simp at q ⊢; omega)).trans (kx3.mono (fun t q => by simp at q ⊢; omega))
              have HNX : Hid (LR dE ped n (s.bind pgr) (fun u K => ∃ nodes, NRow dN 74 u (.slice na nn nc) nodes ∧ K = fun es r => some ((nodes, es), r)) (w5.setCell ⟨gb, 1, none⟩ (.slice a5 n5 c5)) (i + 1) (((some rr).bind ped).map (·.2)) (rs ++ [c])) :=
                LR.step (X := [49, 79, 33]) hlr hlt hxl kx4 kx5 (by decide) (fun K hK => ⟨hK.choose, hK.choose_spec.1.kx kx4 (by decide) (by decide), hK.choose_spec.2⟩) (fun x l' e => by rw [hc]; exact hx9 x l' e)
              have hsz9 : u9.heap.size = w17.heap.size := by rw [hu9]; simp
              rw [hsz9] at hr5
              have HR5 := hide hr5
              have HF : Hid (Blk (w5.setCell ⟨gb, 1, none⟩ (.slice a5 n5 c5)) gb 33 [.slice na nn nc, .slice a5 n5 c5] ∧ Sw (eR dE.s) 79 (w5.setCell ⟨gb, 1, none⟩ (.slice a5 n5 c5)) (.slice a5 n5 c5) (rs ++ [c]) ∧ Fresh wb (.slice a5 n5 c5) ∧ Cb b wb (w5.setCell ⟨gb, 1, none⟩ (.slice a5 n5 c5)) ∧ Rc N (w5.setCell ⟨gb, 1, none⟩ (.slice a5 n5 c5)) b (((some rr).bind ped).map (·.2)) ∧ (rs ++ [c]).length = i + 1 ∧ i < n) :=
                ⟨hB5.set 1 _, hs5.kx kx3 (by decide), hf5, hc5.more h6 (fun k hk e => by have := HGE.out.2.1; omega), hsc5.far (F := fun k => k = gb) (fun k hk => by subst hk; exact ⟨HGE.out.2.2, HGE.out.1⟩) h6, by simp; exact hxl, hlt⟩
              have HWI : Hid (wrap64 ((i : Int) + 1) = ((i + 1 : Nat) : Int)) := by show _ = _; unfold wrap64; omega
              have hB8 : Blk (w17.setCell ⟨rb, 4, none⟩ (.slice pa pn pc)) gb 33 [.slice na nn nc, .slice ra rn rc] := by rw [← hu9]; exact hB9
              have kb0 := hB8.cell
              have kB5 := hB5.cell
              have fB5 := hB5.frozen
              have HU9 := hide hu9
              clear ho hof hob hch hB hA ho4 hi0 hz0 hz1 hz2 hmx hxl n21 hlt hlr hlit hr5 hs5 hch5 hob5 kx1 kx2 hB5 hB9 hB8 hcA hc5 hf5 hsc5 h6 kx3 kx4 kx5 hc hs9 hc9 hb9 hx9 HX HO HC HB3 HP hu9 hsz9 k3 i2
              go_wp2_with (first | (at_builtin; refine Hid.out ?_) | fail)
              unfold Hid
              rw [show (w17.setCell ⟨rb, 4, none⟩ (.slice pa pn pc)) = u9 from HU9.out.symm]
              refine wpList_append_run rfl _ _ 31 rfl (.slice ra rn rc) (.slice (some ⟨w17.heap.size, 0, none⟩) 1 1) rfl rfl HR5.out ?_
              go_wp2_with fail
              try rw [HWI.out]
              obtain ⟨r1, r2, r3, r4, r5, r6, r7⟩ := HF.out
              refine ⟨⟨i + 1, _, a5, n5, c5, rs ++ [c], rfl, r7, r1, r2, r3, r4, r5, r6, HNX.out⟩, ?_⟩
              simp only [RowKit.intOf]; omega
          · have i2 : ¬ (i : Int) < (n : Int) := by omega
            have HP := hide (HPE.out (.inr (by omega)))
            clear hin ho hof hch hs hxl hrel' b3 hlt HPE hB
            obtain ⟨hs9, hc9, hb9, hr9⟩ := HP.out
            have hq9 := HR1.out.2.chg hc9 HNR.out.1
            have c9 := hb9.cell
            have m9 := hq9.cell
            have z9 := hq9.frozen
            have HQ9 := hide hq9
            have HF : Hid (∀ u, Chg (fun k => k = w.heap.size) wo u → RetF N pgr (fun v => ∃ (da : Option Addr) (dn dc : Nat) (ea : Option Addr) (en ec : Nat), v = .agg #[.slice da dn dc, .slice ea en ec]) (fun u v x => ∀ (da : Option Addr) (dn dc : Nat) (ea : Option Addr) (en ec : Nat), v = .agg #[.slice da dn dc, .slice ea en ec] → NRow dN 74 u (.slice da dn dc) x.1 ∧ NRow dE 79 u (.slice ea en ec) x.2) b w s (.returned (.agg #[.slice na nn nc, .slice ra rn rc])) u) := fun u hu => gr_fin na nn nc ra rn rc HR1.out.1 hs9 hc9 hq9 (by
              rcases hr9 with h | ⟨r, xs, K, e, h1, ⟨nodes, h2, h3⟩, h4⟩
              · first | exact .inl h | exact .inl ⟨rfl, h.2⟩
              · exact .inr ⟨r, (nodes, xs), e, by rw [h4, h3], h2, h1⟩) hu HNR.out
            clear hs9 hc9 hb9 hr9 HP hq9
            go_wp2_with fail
            have hC9 := (HQ9.out.set 0 (.slice na nn nc)).set 1 (.slice ra rn rc)
            exact bodyPost_ret_by (v := .agg #[.slice na nn nc, .slice ra rn rc]) (results_cell_row Tryd.results18 _ _ w.heap.size 33 _ (0, 0) _ rfl hC9.h Tryd.underlying33 rfl (by kernel_rfl)) rfl (HF.out _ ((chg_setCell (F := fun k => k = w.heap.size) (b := w.heap.size) (o := 0) _ (.slice na nn nc) (.inl rfl)).trans (chg_setCell (F := fun k => k = w.heap.size) (b := w.heap.size) (o := 1) _ (.slice ra rn rc) (.inl rfl))))
      | some rr =>
        obtain ⟨u0, hw0⟩ : ∃ u0, u0 = wo.alloc (.cells #[I 0, .string { data := #[] }, .slice none 0 0] 74) := ⟨_, rfl⟩
        obtain ⟨rb, hrb⟩ : ∃ rb, rb = wo.heap.size := ⟨_, rfl⟩
        have hbl := b3.lt
        have HNW : Hid (N ≤ wo.heap.size) := Nat.le_trans HNB.out hch.size
        have HP : Hid (Pt9 N b wo (some rr) pnd rb 74 [I 0, .string { data := #[] }, .slice none 0 0] (fun _ r0 => some rr = some r0) u0) := Pt9.start pnd hs (by rw [hw0]; exact (G.refl wo).alloc _) (by rw [hw0, hrb]; exact Blk.new wo [I 0, .string { data := #[] }, .slice none 0 0] _)
        have HNE : Hid (rb ≠ b ∧ wo.heap.size ≤ rb ∧ N ≤ rb) := ⟨by omega, by omega, by rw [hrb]; exact HNW.out⟩
        have HT := hide (HTB.out.cb hch)
        have HW0 := hide hw0
        have HRX := hide hrb
        have hob : ∀ k, (Value.slice ra rn rc).ownBlock = some k → ¬ k = b := fun k hk e => by subst e; exact ho.ne b3 (by decide) hk
        have HO := hide (And.intro ho (And.intro hof hob))
        have HC := hide (And.intro hch hB)
        have HB3 := hide b3
        have HX := hide (And.intro hxl (And.intro hlt hrel'))
        simp only [Option.isNone_some] at k3
        clear hin ho hof hch hs hxl hrel' b3 hlt hob HPE hB hw0 hrb hbl
        go_wp2_with fail
        rw [show wo.alloc (.cells #[I 0, .string { data := #[] }, .slice none 0 0] 74) = u0 from HW0.out.symm]
        try rw [← HRX.out]
        obtain ⟨s13, hs13, hc13, hb13, hr13⟩ := HP.out
        refine (nF3_any N _ b s13 hs13).mono ?_
        rintro e w13 ⟨v13, rfl, ⟨nid, rfl⟩, hd13, hz13, hR13⟩
        have hB13 := hb13.chg hd13 HNE.out.1
        have k13 := hB13.cell
        have f13 := hB13.frozen
        replace HP := hide (Pt9.step (p := pnd) (q := pz) (Φ := (fun _ r0 => some rr = some r0)) (R := fun _ x => nid = x ∧ R64 x) hs13 hc13 hr13 HNE.out.2.2 HNE.out.2.1 HNE.out.1 hd13 hz13 (fun x l' e => by have := hR13 x l' e; simp at this; exact this) (chg_setCell (F := fun k => k = rb) (b := rb) (o := 0) _ (I nid) (.inl rfl)) hB13 (hB13.set 0 (I nid)) (fun _ _ _ _ h => h) (fun _ _ _ _ h => h) (fun u r h e => by
          have h0 := h
          cases h0; show pnd _ = none; simp [pnd, e]))
        clear hs13 hc13 hb13 hr13 hd13 hz13 hR13 hB13
        go_wp2_with fail
        generalize (w13.setCell ⟨rb, 0, none⟩ (I nid)) = u13 at HP ⊢
        clear k13 f13
        obtain ⟨s14, hs14, hc14, hb14, hr14⟩ := HP.out
        refine (tF3_any N _ b s14 hs14).mono ?_
        rintro e w14 ⟨v14, rfl, ⟨lb, rfl, hzlb⟩, hd14, hz14, hR14⟩
        have hB14 := hb14.chg hd14 HNE.out.1
        have k14 := hB14.cell
        have f14 := hB14.frozen
        replace HP := hide (Pt9.step (p := pnd) (q := pt) (Φ := (fun u r' => ∃ r x, (fun _ r0 => some rr = some r0) u r ∧ pz r = some (x, r') ∧ (fun _ x => nid = x ∧ R64 x) u x)) (R := fun _ x => lb = x) hs14 hc14 hr14 HNE.out.2.2 HNE.out.2.1 HNE.out.1 hd14 hz14 (fun x l' e => by have := hR14 x l' e; simp at this; exact this) (chg_setCell (F := fun k => k = rb) (b := rb) (o := 1) _ (.string lb) (.inl rfl)) hB14 (hB14.set 1 (.string lb)) (fun u u' r' k ⟨r, x, h1, h2, h3⟩ => ⟨r, x, (fun _ _ _ _ h => h) u u' r k h1, h2, (fun _ _ _ _ h => h) u u' x k h3⟩) (fun _ _ _ _ h => h) (fun u r h e => by
          obtain ⟨r1, x1, h0, e1, g1⟩ := h
          cases h0; show pnd _ = none; simp [pnd, e1, e]))
        clear hs14 hc14 hb14 hr14 hd14 hz14 hR14 hB14
        go_wp2_with fail
        generalize (w14.setCell ⟨rb, 1, none⟩ (.string lb)) = u14 at HP ⊢
        clear k14 f14
        obtain ⟨s15, hs15, hc15, hb15, hr15⟩ := HP.out
        refine (props3_any N _ b s15 hs15 (Nat.le_trans HNW.out hc15.size) (HT.out.cb hc15)).mono ?_
        rintro e w15 ⟨v15, rfl, ⟨pa, pn, pc, rfl⟩, hd15, hz15, hR15⟩
        have hB15 := hb15.chg hd15 HNE.out.1
        have k15 := hB15.cell
        have f15 := hB15.frozen
        replace HP := hide (Pt9.step (p := pnd) (q := (pl ppr)) (Φ := (fun u r' => ∃ r x, (fun u r' => ∃ r x, (fun _ r0 => some rr = some r0) u r ∧ pz r = some (x, r') ∧ (fun _ x => nid = x ∧ R64 x) u x) u r ∧ pt r = some (x, r') ∧ (fun _ x => lb = x) u x)) (R := fun u l => NRow dP 99 u (.slice pa pn pc) l) hs15 hc15 hr15 HNE.out.2.2 HNE.out.2.1 HNE.out.1 hd15 hz15 (fun x l' e => by exact hR15 x l' e) (chg_setCell (F := fun k => k = rb) (b := rb) (o := 2) _ (.slice pa pn pc) (.inl rfl)) hB15 (hB15.set 2 (.slice pa pn pc)) (fun u u' r' k ⟨r, x, h1, h2, h3⟩ => ⟨r, x, (fun u u' r' k ⟨r, x, h1, h2, h3⟩ => ⟨r, x, (fun _ _ _ _ h => h) u u' r k h1, h2, (fun _ _ _ _ h => h) u u' x k h3⟩) u u' r k h1, h2, (fun _ _ _ _ h => h) u u' x k h3⟩) (fun _ _ _ k h => h.kx k (by decide) (by decide)) (fun u r h e => by
          obtain ⟨r2, x2, ⟨r1, x1, h0, e1, g1⟩, e2, g2⟩ := h
          cases h0; show pnd _ = none; simp [pnd, e1, e2, e]))
        clear hs15 hc15 hb15 hr15 hd15 hz15 hR15 hB15
        obtain ⟨hs9, hc9, hb9, hx9⟩ := Pt9.done (R := fun u x => dN.r u [I nid, .string lb, .slice pa pn pc] x) HP.out (fun r9 h => by
          obtain ⟨r3, x3, ⟨r2, x2, ⟨r1, x1, h0, e1, g1⟩, e2, g2⟩, e3, g3⟩ := h
          cases h0
          refine ⟨⟨x1, x2, x3⟩, ?_, ?_⟩
          · show pnd _ = _
            simp [pnd, e1, e2, e3]
          · exact ⟨_, by rw [g1.1, g2], g3⟩)
        obtain ⟨u9, hu9⟩ : ∃ u9, u9 = (w15.setCell ⟨rb, 2, none⟩ (.slice pa pn pc)) := ⟨_, rfl⟩
        have hb8 := hb9.cell
        rw [← hu9] at hs9 hc9 hb9 hx9
        obtain ⟨ho, hof, hob⟩ := HO.out
        obtain ⟨hch, hB⟩ := HC.out
        have hA := (G.refl u9).alloc (.cells #[I nid, .string lb, .slice pa pn pc] 74)
        have ho4 := (ho.chg hc9 hob).G hA
        obtain ⟨i0, hi0, hz0, hz1, hz2⟩ := info_N
        have hmx : (2097153 : Nat) ≤ maxLen := of_decide_eq_true (by kernel_rfl)
        obtain ⟨hxl, hlt, hlr⟩ := HX.out
        have n21 : n ≤ 2097152 := by
          rcases hlr with ⟨q, _⟩ | ⟨_, _, _, _, q, _⟩
          · cases q
          · exact q
        obtain ⟨c, hc⟩ : ∃ c : Raw dN.s, c.1 = [I nid, .string lb, .slice pa pn pc] := ⟨⟨[I nid, .string lb, .slice pa pn pc], rfl, fun u hu => by simp at hu; rcases hu with rfl | rfl | rfl <;> rfl⟩, rfl⟩
        have hlit : Row (eR dN.s).rel (u9.alloc (.cells #[I nid, .string lb, .slice pa pn pc] 74)) (.slice (some ⟨u9.heap.size, 0, none⟩) 1 1) [c] := by
          have := Row.lit (E := eR dN.s) u9 74 [c] 1 (by simp)
          rw [show (eR dN.s).fl [c] = [I nid, .string lb, .slice pa pn pc] by simp [Enc.fl, hc]] at this
          exact this
        obtain ⟨v5, w5, hr5, hs5, hch5, hob5⟩ := app_row (P := Tryd.prog) (tr := 30) (ns := [c]) i0 _ 48 Tryd.underlying30 hi0 hz0 hz1 hz2 rfl (by decide) ho4 hlit (by simp; omega) (by simp; omega)
        have kx1 : Kx [49, 74] wo u9 := Kx.one hc9 HB3.out (by simp)
        have kx2 : Kx [49, 74] u9 w5 := (Kx.of_G hA).trans (Kx.own hch5 ho4 (by simp))
        have hB9 : Blk u9 gb 33 [.slice ra rn rc, .slice none 0 0] := kx1.blk hB (by decide)
        have hB5 : Blk w5 gb 33 [.slice ra rn rc, .slice none 0 0] := (kx1.trans kx2).blk hB (by decide)
        have hcA : Cb b wb (u9.alloc (.cells #[I nid, .string lb, .slice pa pn pc] 74)) := (hch.trans hc9).trans hA.chg
        have hc5 : Cb b wb w5 := hcA.more hch5 (fun k hk q => absurd (hof k q) (by omega))
        have hf5 : Fresh wb v5 := fun k hk => by
          rcases hob5 with q | q
          · rw [q] at hk; exact hof k hk
          · rw [q] at hk; have h1 := Option.some.inj hk; have h2 := hcA.size; omega
        have hsc5 := (hs9.G hA).own (W := wb) (fun k hk => ⟨hof k hk, hob k hk⟩) HNB.out hch5
        obtain ⟨a5, c5, hv5⟩ := hs5.form
        generalize (rs ++ [c]).length = n5 at hv5
        subst hv5
        have h6 : Chg (fun k => k = gb) w5 (w5.setCell ⟨gb, 0, none⟩ (.slice a5 n5 c5)) := chg_setCell w5 _ (.inl rfl)
        have kx3 : Kx [49, 33] w5 (w5.setCell ⟨gb, 0, none⟩ (.slice a5 n5 c5)) := Kx.one h6 hB5 (by simp)
        have kx4 : Kx [49, 74, 33] wo (w5.setCell ⟨gb, 0, none⟩ (.slice a5 n5 c5)) := ((kx1.trans kx2).mono (fun t q => by simp at q ⊢; omega)).trans (kx3.mono (fun t q => by simp at q ⊢; omega))
        have kx5 : Kx [49, 74, 33] u9 (w5.setCell ⟨gb, 0, none⟩ (.slice a5 n5 c5)) := (kx2.mono (fun t q => by simp at q ⊢; omega)).trans (kx3.mono (fun t q => by simp at q ⊢; omega))
        have HNX : Hid (LR dN pnd n (s.bind pgr) (fun _ K => K = KN) (w5.setCell ⟨gb, 0, none⟩ (.slice a5 n5 c5)) (i + 1) (((some rr).bind pnd).map (·.2)) (rs ++ [c])) :=
          LR.step (X := [49, 74, 33]) hlr hlt hxl kx4 kx5 (by decide) (fun K hK => hK) (fun x l' e => by rw [hc]; exact hx9 x l' e)
        have hsz9 : u9.heap.size = w15.heap.size := by rw [hu9]; simp
        rw [hsz9] at hr5
        have HR5 := hide hr5
        have HF : Hid (Blk (w5.setCell ⟨gb, 0, none⟩ (.slice a5 n5 c5)) gb 33 [.slice a5 n5 c5, .slice none 0 0] ∧ Sw (eR dN.s) 74 (w5.setCell ⟨gb, 0, none⟩ (.slice a5 n5 c5)) (.slice a5 n5 c5) (rs ++ [c]) ∧ Fresh wb (.slice a5 n5 c5) ∧ Cb b wb (w5.setCell ⟨gb, 0, none⟩ (.slice a5 n5 c5)) ∧ Rc N (w5.setCell ⟨gb, 0, none⟩ (.slice a5 n5 c5)) b (((some rr).bind pnd).map (·.2)) ∧ (rs ++ [c]).length = i + 1 ∧ i < n) :=
          ⟨hB5.set 0 _, hs5.kx kx3 (by decide), hf5, hc5.more h6 (fun k hk e => by have := HGE.out.2.1; omega), hsc5.far (F := fun k => k = gb) (fun k hk => by subst hk; exact ⟨HGE.out.2.2, HGE.out.1⟩) h6, by simp; exact hxl, hlt⟩
        have HWI : Hid (wrap64 ((i : Int) + 1) = ((i + 1 : Nat) : Int)) := by show _ = _; unfold wrap64; omega
        have hB8 : Blk (w15.setCell ⟨rb, 2, none⟩ (.slice pa pn pc)) gb 33 [.slice ra rn rc, .slice none 0 0] := by rw [← hu9]; exact hB9
        have kb0 := hB8.cell
        have kB5 := hB5.cell
        have fB5 := hB5.frozen
        have HU9 := hide hu9
        clear ho hof hob hch hB hA ho4 hi0 hz0 hz1 hz2 hmx hxl n21 hlt hlr hlit hr5 hs5 hch5 hob5 kx1 kx2 hB5 hB9 hB8 hcA hc5 hf5 hsc5 h6 kx3 kx4 kx5 hc hs9 hc9 hb9 hx9 HX HO HC HB3 HP hu9 hsz9 k3 i2
        go_wp2_with (first | (at_builtin; refine Hid.out ?_) | fail)
        unfold Hid
        rw [show (w15.setCell ⟨rb, 2, none⟩ (.slice pa pn pc)) = u9 from HU9.out.symm]
        refine wpList_append_run rfl _ _ 30 rfl (.slice ra rn rc) (.slice (some ⟨w15.heap.size, 0, none⟩) 1 1) rfl rfl HR5.out ?_
        go_wp2_with fail
        try rw [HWI.out]
        obtain ⟨r1, r2, r3, r4, r5, r6, r7⟩ := HF.out
        refine ⟨⟨i + 1, _, a5, n5, c5, rs ++ [c], rfl, r7, r1, r2, r3, r4, r5, r6, HNX.out⟩, ?_⟩
        simp only [RowKit.intOf]; omega
    · have i2 : ¬ (i : Int) < (n : Int) := by omega
      have HP := hide (HPE.out (.inr (by omega)))
      clear hin ho hof hch hs hxl hrel' b3 hlt HPE hB
      obtain ⟨hs9, hc9, hb9, hr9⟩ := HP.out
      have K9 := hide (list3_any N wo b _ hs9)
      have H9 := hide (And.intro hs9 (And.intro hc9 (And.intro hb9 hr9)))
      clear HP hs9 hc9 hb9 hr9
      go_wp2_with fail
      clear k3 i2
      refine K9.out.mono ?_
      intro e w2 hcase
      obtain ⟨hs9, hc9, hb9, hr9⟩ := H9.out
      have kx2 : Kx [49] wo w2 := by obtain ⟨_, _, q, _⟩ := hcase; obtain ⟨_, q2⟩ := hs9.blk; exact Kx.one q q2 (by simp)
      obtain ⟨n, s3, rfl, hc2, hd2, hs3, hlr⟩ := LR.start (D := dE) (q := ped) (S := s.bind pgr) (Ψ := (fun u K => ∃ nodes, NRow dN 74 u (.slice ra rn rc) nodes ∧ K = fun es r => some ((nodes, es), r))) (w := wb) hcase (by
        rcases hr9 with h | ⟨r, xs, K, e, h1, h2, h3⟩
        · first | exact .inl h | exact .inl ⟨rfl, h.2⟩
        · exact .inr ⟨r, fun es r => some ((xs, es), r), e, ⟨xs, h1, rfl⟩, by rw [h3, h2]; rfl⟩) (fun K ⟨nodes, h1, h2⟩ => ⟨nodes, h1.kx kx2 (by decide) (by decide), h2⟩) hc9
      have HS := hide (And.intro hs3 (And.intro hc2 (And.intro (hb9.chg hd2 HGE.out.1) hlr)))
      clear hcase hs9 hc9 hb9 hr9 kx2 hc2 hd2 hs3 hlr K9 H9
      generalize ra = na at HS ⊢
      generalize rn = nn at HS ⊢
      generalize rc = nc at HS ⊢
      go_wp2_with fail
      go_loopw [7] (fun iv wr => ∃ (i : Nat) (s' : Option (List Nat)) (ra : Option Addr) (rn rc : Nat) (rs : List (Raw dE.s)), iv = I i ∧ i ≤ n ∧ Blk wr gb 33 [.slice na nn nc, .slice ra rn rc] ∧ Sw (eR dE.s) 79 wr (.slice ra rn rc) rs ∧ Fresh wb (.slice ra rn rc) ∧ Cb b wb wr ∧ Rc N wr b s' ∧ rs.length = i ∧ LR dE ped n (s.bind pgr) (fun u K => ∃ nodes, NRow dN 74 u (.slice na nn nc) nodes ∧ K = fun es r => some ((nodes, es), r)) wr i s' rs) (fun iv _ => n - (RowKit.intOf iv).toNat)
      case atStart =>
        obtain ⟨q1, q2, q3, q4⟩ := HS.out
        exact ⟨0, s3, none, 0, 0, [], rfl, Nat.zero_le _, q3, Sw.nil _ _ _, Fresh.nil _, q2, q1, rfl, q4⟩
      case round =>
        obtain ⟨i, s', ra, rn, rc, rs, rfl, hin, hB, ho, hof, hch, hs, hxl, hrel'⟩ := hrel
        obtain ⟨wo, hwo⟩ : ∃ wo, wo = wr := ⟨_, rfl⟩
        subst hwo
        clear HS
        obtain ⟨p3, n3, c3, b3⟩ := hs.bad
        have k3 := b3.cell
        have HPE : Hid (s' = none ∨ i = n → Rc N wo b s' ∧ Cb b wb wo ∧ Blk wo gb 33 [.slice na nn nc, .slice ra rn rc] ∧ ((s' = none ∧ s.bind pgr = none) ∨ ∃ (r : List Nat) (xs : List Ed) (K : List Ed → List Nat → Option ((List Nd × List Ed) × List Nat)), s' = some r ∧ NRow dE 79 wo (.slice ra rn rc) xs ∧ (fun u K => ∃ nodes, NRow dN 74 u (.slice na nn nc) nodes ∧ K = fun es r => some ((nodes, es), r)) wo K ∧ s.bind pgr = K xs r)) := fun hq => ⟨hs, hch, hB, LR.fin hrel' hq hxl ho⟩
        by_cases hlt : i < n
        · have i2 : (i : Int) < (n : Int) := by omega
          cases s' with
          | none =>
            have HP := hide (HPE.out (.inl rfl))
            simp only [Option.isNone_none] at k3
            clear hin ho hof hch hs hxl hrel' b3 hlt HPE hB
            obtain ⟨hs9, hc9, hb9, hr9⟩ := HP.out
            have hq9 := HR1.out.2.chg hc9 HNR.out.1
            have c9 := hb9.cell
            have m9 := hq9.cell
            have z9 := hq9.frozen
            have HQ9 := hide hq9
            have HF : Hid (∀ u, Chg (fun k => k = w.heap.size) wo u → RetF N pgr (fun v => ∃ (da : Option Addr) (dn dc : Nat) (ea : Option Addr) (en ec : Nat), v = .agg #[.slice da dn dc, .slice ea en ec]) (fun u v x => ∀ (da : Option Addr) (dn dc : Nat) (ea : Option Addr) (en ec : Nat), v = .agg #[.slice da dn dc, .slice ea en ec] → NRow dN 74 u (.slice da dn dc) x.1 ∧ NRow dE 79 u (.slice ea en ec) x.2) b w s (.returned (.agg #[.slice na nn nc, .slice ra rn rc])) u) := fun u hu => gr_fin na nn nc ra rn rc HR1.out.1 hs9 hc9 hq9 (by
              rcases hr9 with h | ⟨r, xs, K, e, h1, ⟨nodes, h2, h3⟩, h4⟩
              · first | exact .inl h | exact .inl ⟨rfl, h.2⟩
              · exact .inr ⟨r, (nodes, xs), e, by rw [h4, h3], h2, h1⟩) hu HNR.out
            clear hs9 hc9 hb9 hr9 HP hq9
            go_wp2_with fail
            have hC9 := (HQ9.out.set 0 (.slice na nn nc)).set 1 (.slice ra rn rc)
            exact bodyPost_ret_by (v := .agg #[.slice na nn nc, .slice ra rn rc]) (results_cell_row Tryd.results18 _ _ w.heap.size 33 _ (0, 0) _ rfl hC9.h Tryd.underlying33 rfl (by kernel_rfl)) rfl (HF.out _ ((chg_setCell (F := fun k => k = w.heap.size) (b := w.heap.size) (o := 0) _ (.slice na nn nc) (.inl rfl)).trans (chg_setCell (F := fun k => k = w.heap.size) (b := w.heap.size) (o := 1) _ (.slice ra rn rc) (.inl rfl))))
          | some rr =>
            obtain ⟨u0, hw0⟩ : ∃ u0, u0 = wo.alloc (.cells #[I 0, .string { data := #[] }, I 0, I 0, .slice none 0 0] 79) := ⟨_, rfl⟩
            obtain ⟨rb, hrb⟩ : ∃ rb, rb = wo.heap.size := ⟨_, rfl⟩
            have hbl := b3.lt
            have HNW : Hid (N ≤ wo.heap.size) := Nat.le_trans HNB.out hch.size
            have HP : Hid (Pt9 N b wo (some rr) ped rb 79 [I 0, .string { data := #[] }, I 0, I 0, .slice none 0 0] (fun _ r0 => some rr = some r0) u0) := Pt9.start ped hs (by rw [hw0]; exact (G.refl wo).alloc _) (by rw [hw0, hrb]; exact Blk.new wo [I 0, .string { data := #[] }, I 0, I 0, .slice none 0 0] _)
            have HNE : Hid (rb ≠ b ∧ wo.heap.size ≤ rb ∧ N ≤ rb) := ⟨by omega, by omega, by rw [hrb]; exact HNW.out⟩
            have HT := hide (HTB.out.cb hch)
            have HW0 := hide hw0
            have HRX := hide hrb
            have hob : ∀ k, (Value.slice ra rn rc).ownBlock = some k → ¬ k = b := fun k hk e => by subst e; exact ho.ne b3 (by decide) hk
            have HO := hide (And.intro ho (And.intro hof hob))
            have HC := hide (And.intro hch hB)
            have HB3 := hide b3
            have HX := hide (And.intro hxl (And.intro hlt hrel'))
            simp only [Option.isNone_some] at k3
            clear hin ho hof hch hs hxl hrel' b3 hlt hob HPE hB hw0 hrb hbl
            go_wp2_with fail
            rw [show wo.alloc (.cells #[I 0, .string { data := #[] }, I 0, I 0, .slice none 0 0] 79) = u0 from HW0.out.symm]
            try rw [← HRX.out]
            obtain ⟨s13, hs13, hc13, hb13, hr13⟩ := HP.out
            refine (nF3_any N _ b s13 hs13).mono ?_
            rintro e w13 ⟨v13, rfl, ⟨nid, rfl⟩, hd13, hz13, hR13⟩
            have hB13 := hb13.chg hd13 HNE.out.1
            have k13 := hB13.cell
            have f13 := hB13.frozen
            replace HP := hide (Pt9.step (p := ped) (q := pz) (Φ := (fun _ r0 => some rr = some r0)) (R := fun _ x => nid = x ∧ R64 x) hs13 hc13 hr13 HNE.out.2.2 HNE.out.2.1 HNE.out.1 hd13 hz13 (fun x l' e => by have := hR13 x l' e; simp at this; exact this) (chg_setCell (F := fun k => k = rb) (b := rb) (o := 0) _ (I nid) (.inl rfl)) hB13 (hB13.set 0 (I nid)) (fun _ _ _ _ h => h) (fun _ _ _ _ h => h) (fun u r h e => by
              have h0 := h
              cases h0; show ped _ = none; simp [ped, e]))
            clear hs13 hc13 hb13 hr13 hd13 hz13 hR13 hB13
            go_wp2_with fail
            generalize (w13.setCell ⟨rb, 0, none⟩ (I nid)) = u13 at HP ⊢
            clear k13 f13
            obtain ⟨s14, hs14, hc14, hb14, hr14⟩ := HP.out
            refine (tF3_any N _ b s14 hs14).mono ?_
            rintro e w14 ⟨v14, rfl, ⟨lb, rfl, hzlb⟩, hd14, hz14, hR14⟩
            have hB14 := hb14.chg hd14 HNE.out.1
            have k14 := hB14.cell
            have f14 := hB14.frozen
            replace HP := hide (Pt9.step (p := ped) (q := pt) (Φ := (fun u r' => ∃ r x, (fun _ r0 => some rr = some r0) u r ∧ pz r = some (x, r') ∧ (fun _ x => nid = x ∧ R64 x) u x)) (R := fun _ x => lb = x) hs14 hc14 hr14 HNE.out.2.2 HNE.out.2.1 HNE.out.1 hd14 hz14 (fun x l' e => by have := hR14 x l' e; simp at this; exact this) (chg_setCell (F := fun k => k = rb) (b := rb) (o := 1) _ (.string lb) (.inl rfl)) hB14 (hB14.set 1 (.string lb)) (fun u u' r' k ⟨r, x, h1, h2, h3⟩ => ⟨r, x, (fun _ _ _ _ h => h) u u' r k h1, h2, (fun _ _ _ _ h => h) u u' x k h3⟩) (fun _ _ _ _ h => h) (fun u r h e => by
              obtain ⟨r1, x1, h0, e1, g1⟩ := h
              cases h0; show ped _ = none; simp [ped, e1, e]))
            clear hs14 hc14 hb14 hr14 hd14 hz14 hR14 hB14
            go_wp2_with fail
            generalize (w14.setCell ⟨rb, 1, none⟩ (.string lb)) = u14 at HP ⊢
            clear k14 f14
            obtain ⟨s15, hs15, hc15, hb15, hr15⟩ := HP.out
            refine (nF3_any N _ b s15 hs15).mono ?_
            rintro e w15 ⟨v15, rfl, ⟨fr, rfl⟩, hd15, hz15, hR15⟩
            have hB15 := hb15.chg hd15 HNE.out.1
            have k15 := hB15.cell
            have f15 := hB15.frozen
            replace HP := hide (Pt9.step (p := ped) (q := pz) (Φ := (fun u r' => ∃ r x, (fun u r' => ∃ r x, (fun _ r0 => some rr = some r0) u r ∧ pz r = some (x, r') ∧ (fun _ x => nid = x ∧ R64 x) u x) u r ∧ pt r = some (x, r') ∧ (fun _ x => lb = x) u x)) (R := fun _ x => fr = x ∧ R64 x) hs15 hc15 hr15 HNE.out.2.2 HNE.out.2.1 HNE.out.1 hd15 hz15 (fun x l' e => by have := hR15 x l' e; simp at this; exact this) (chg_setCell (F := fun k => k = rb) (b := rb) (o := 2) _ (I fr) (.inl rfl)) hB15 (hB15.set 2 (I fr)) (fun u u' r' k ⟨r, x, h1, h2, h3⟩ => ⟨r, x, (fun u u' r' k ⟨r, x, h1, h2, h3⟩ => ⟨r, x, (fun _ _ _ _ h => h) u u' r k h1, h2, (fun _ _ _ _ h => h) u u' x k h3⟩) u u' r k h1, h2, (fun _ _ _ _ h => h) u u' x k h3⟩) (fun _ _ _ _ h => h) (fun u r h e => by
              obtain ⟨r2, x2, ⟨r1, x1, h0, e1, g1⟩, e2, g2⟩ := h
              cases h0; show ped _ = none; simp [ped, e1, e2, e]))
            clear hs15 hc15 hb15 hr15 hd15 hz15 hR15 hB15
            go_wp2_with fail
            generalize (w15.setCell ⟨rb, 2, none⟩ (I fr)) = u15 at HP ⊢
            clear k15 f15
            obtain ⟨s16, hs16, hc16, hb16, hr16⟩ := HP.out
            refine (nF3_any N _ b s16 hs16).mono ?_
            rintro e w16 ⟨v16, rfl, ⟨tt, rfl⟩, hd16, hz16, hR16⟩
            have hB16 := hb16.chg hd16 HNE.out.1
            have k16 := hB16.cell
            have f16 := hB16.frozen
            replace HP := hide (Pt9.step (p := ped) (q := pz) (Φ := (fun u r' => ∃ r x, (fun u r' => ∃ r x, (fun u r' => ∃ r x, (fun _ r0 => some rr = some r0) u r ∧ pz r = some (x, r') ∧ (fun _ x => nid = x ∧ R64 x) u x) u r ∧ pt r = some (x, r') ∧ (fun _ x => lb = x) u x) u r ∧ pz r = some (x, r') ∧ (fun _ x => fr = x ∧ R64 x) u x)) (R := fun _ x => tt = x ∧ R64 x) hs16 hc16 hr16 HNE.out.2.2 HNE.out.2.1 HNE.out.1 hd16 hz16 (fun x l' e => by have := hR16 x l' e; simp at this; exact this) (chg_setCell (F := fun k => k = rb) (b := rb) (o := 3) _ (I tt) (.inl rfl)) hB16 (hB16.set 3 (I tt)) (fun u u' r' k ⟨r, x, h1, h2, h3⟩ => ⟨r, x, (fun u u' r' k ⟨r, x, h1, h2, h3⟩ => ⟨r, x, (fun u u' r' k ⟨r, x, h1, h2, h3⟩ => ⟨r, x, (fun _ _ _ _ h => h) u u' r k h1, h2, (fun _ _ _ _ h => h) u u' x k h3⟩) u u' r k h1, h2, (fun _ _ _ _ h => h) u u' x k h3⟩) u u' r k h1, h2, (fun _ _ _ _ h => h) u u' x k h3⟩) (fun _ _ _ _ h => h) (fun u r h e => by
              obtain ⟨r3, x3, ⟨r2, x2, ⟨r1, x1, h0, e1, g1⟩, e2, g2⟩, e3, g3⟩ := h
              cases h0; show ped _ = none; simp [ped, e1, e2, e3, e]))
            clear hs16 hc16 hb16 hr16 hd16 hz16 hR16 hB16
            go_wp2_with fail
            generalize (w16.setCell ⟨rb, 3, none⟩ (I tt)) = u16 at HP ⊢
            clear k16 f16
            obtain ⟨s17, hs17, hc17, hb17, hr17⟩ := HP.out
            refine (props3_any N _ b s17 hs17 (Nat.le_trans HNW.out hc17.size) (HT.out.cb hc17)).mono ?_
            rintro e w17 ⟨v17, rfl, ⟨pa, pn, pc, rfl⟩, hd17, hz17, hR17⟩
            have hB17 := hb17.chg hd17 HNE.out.1
            have k17 := hB17.cell
            have f17 := hB17.frozen
            replace HP := hide (Pt9.step (p := ped) (q := (pl ppr)) (Φ := (fun u r' => ∃ r x, (fun u r' => ∃ r x, (fun u r' => ∃ r x, (fun u r' => ∃ r x, (fun _ r0 => some rr = some r0) u r ∧ pz r = some (x, r') ∧ (fun _ x => nid = x ∧ R64 x) u x) u r ∧ pt r = some (x, r') ∧ (fun _ x => lb = x) u x) u r ∧ pz r = some (x, r') ∧ (fun _ x => fr = x ∧ R64 x) u x) u r ∧ pz r = some (x, r') ∧ (fun _ x => tt = x ∧ R64 x) u x)) (R := fun u l => NRow dP 99 u (.slice pa pn pc) l) hs17 hc17 hr17 HNE.out.2.2 HNE.out.2.1 HNE.out.1 hd17 hz17 (fun x l' e => by exact hR17 x l' e) (chg_setCell (F := fun k => k = rb) (b := rb) (o := 4) _ (.slice pa pn pc) (.inl rfl)) hB17 (hB17.set 4 (.slice pa pn pc)) (fun u u' r' k ⟨r, x, h1, h2, h3⟩ => ⟨r, x, (fun u u' r' k ⟨r, x, h1, h2, h3⟩ => ⟨r, x, (fun u u' r' k ⟨r, x, h1, h2, h3⟩ => ⟨r, x, (fun u u' r' k ⟨r, x, h1, h2, h3⟩ => ⟨r, x, (fun _ _ _ _ h => h) u u' r k h1, h2, (fun _ _ _ _ h => h) u u' x k h3⟩) u u' r k h1, h2, (fun _ _ _ _ h => h) u u' x k h3⟩) u u' r k h1, h2, (fun _ _ _ _ h => h) u u' x k h3⟩) u u' r k h1, h2, (fun _ _ _ _ h => h) u u' x k h3⟩) (fun _ _ _ k h => h.kx k (by decide) (by decide)) (fun u r h e => by
              obtain ⟨r4, x4, ⟨r3, x3, ⟨r2, x2, ⟨r1, x1, h0, e1, g1⟩, e2, g2⟩, e3, g3⟩, e4, g4⟩ := h
              cases h0; show ped _ = none; simp [ped, e1, e2, e3, e4, e]))
            clear hs17 hc17 hb17 hr17 hd17 hz17 hR17 hB17
            obtain ⟨hs9, hc9, hb9, hx9⟩ := Pt9.done (R := fun u x => dE.r u [I nid, .string lb, I fr, I tt, .slice pa pn pc] x) HP.out (fun r9 h => by
              obtain ⟨r5, x5, ⟨r4, x4, ⟨r3, x3, ⟨r2, x2, ⟨r1, x1, h0, e1, g1⟩, e2, g2⟩, e3, g3⟩, e4, g4⟩, e5, g5⟩ := h
              cases h0
              refine ⟨⟨x1, x2, x3, x4, x5⟩, ?_, ?_⟩
              · show ped _ = _
                simp [ped, e1, e2, e3, e4, e5]
              · exact ⟨_, by rw [g1.1, g2, g3.1, g4.1], g5⟩)
            obtain ⟨u9, hu9⟩ : ∃ u9, u9 = (w17.setCell ⟨rb, 4, none⟩ (.slice pa pn pc)) := ⟨_, rfl⟩
            have hb8 := hb9.cell
            rw [← hu9] at hs9 hc9 hb9 hx9
            obtain ⟨ho, hof, hob⟩ := HO.out
            obtain ⟨hch, hB⟩ := HC.out
            have hA := (G.refl u9).alloc (.cells #[I nid, .string lb, I fr, I tt, .slice pa pn pc] 79)
            have ho4 := (ho.chg hc9 hob).G hA
            obtain ⟨i0, hi0, hz0, hz1, hz2⟩ := info_E
            have hmx : (2097153 : Nat) ≤ maxLen := of_decide_eq_true (by kernel_rfl)
            obtain ⟨hxl, hlt, hlr⟩ := HX.out
            have n21 : n ≤ 2097152 := by
              rcases hlr with ⟨q, _⟩ | ⟨_, _, _, _, q, _⟩
              · cases q
              · exact q
            obtain ⟨c, hc⟩ : ∃ c : Raw dE.s, c.1 = [I nid, .string lb, I fr, I tt, .slice pa pn pc] := ⟨⟨[I nid, .string lb, I fr, I tt, .slice pa pn pc], rfl, fun u hu => by simp at hu; rcases hu with rfl | rfl | rfl | rfl | rfl <;> rfl⟩, rfl⟩
            have hlit : Row (eR dE.s).rel (u9.alloc (.cells #[I nid, .string lb, I fr, I tt, .slice pa pn pc] 79)) (.slice (some ⟨u9.heap.size, 0, none⟩) 1 1) [c] := by
              have := Row.lit (E := eR dE.s) u9 79 [c] 1 (by simp)
              rw [show (eR dE.s).fl [c] = [I nid, .string lb, I fr, I tt, .slice pa pn pc] by simp [Enc.fl, hc]] at this
              exact this
            obtain ⟨v5, w5, hr5, hs5, hch5, hob5⟩ := app_row (P := Tryd.prog) (tr := 31) (ns := [c]) i0 _ 64 Tryd.underlying31 hi0 hz0 hz1 hz2 rfl (by decide) ho4 hlit (by simp; omega) (by simp; omega)
            have kx1 : Kx [49, 79] wo u9 := Kx.one hc9 HB3.out (by simp)
            have kx2 : Kx [49, 79] u9 w5 := (Kx.of_G hA).trans (Kx.own hch5 ho4 (by simp))
            have hB9 : Blk u9 gb 33 [.slice na nn nc, .slice ra rn rc] := kx1.blk hB (by decide)
            have hB5 : Blk w5 gb 33 [.slice na nn nc, .slice ra rn rc] := (kx1.trans kx2).blk hB (by decide)
            have hcA : Cb b wb (u9.alloc (.cells #[I nid, .string lb, I fr, I tt, .slice pa pn pc] 79)) := (hch.trans hc9).trans hA.chg
            have hc5 : Cb b wb w5 := hcA.more hch5 (fun k hk q => absurd (hof k q) (by omega))
            have hf5 : Fresh wb v5 := fun k hk => by
              rcases hob5 with q | q
              · rw [q] at hk; exact hof k hk
              · rw [q] at hk; have h1 := Option.some.inj hk; have h2 := hcA.size; omega
            have hsc5 := (hs9.G hA).own (W := wb) (fun k hk => ⟨hof k hk, hob k hk⟩) HNB.out hch5
            obtain ⟨a5, c5, hv5⟩ := hs5.form
            generalize (rs ++ [c]).length = n5 at hv5
            subst hv5
            have h6 : Chg (fun k => k = gb) w5 (w5.setCell ⟨gb, 1, none⟩ (.slice a5 n5 c5)) := chg_setCell w5 _ (.inl rfl)
            have kx3 : Kx [49, 33] w5 (w5.setCell ⟨gb, 1, none⟩ (.slice a5 n5 c5)) := Kx.one h6 hB5 (by simp)
            have kx4 : Kx [49, 79, 33] wo (w5.setCell ⟨gb, 1, none⟩ (.slice a5 n5 c5)) := ((kx1.trans kx2).mono (fun t q => by simp at q ⊢; omega)).trans (kx3.mono (fun t q => by simp at q ⊢; omega))
            have kx5 : Kx [49, 79, 33] u9 (w5.setCell ⟨gb, 1, none⟩ (.slice a5 n5 c5)) := (kx2.mono (fun t q => by simp at q ⊢; omega)).trans (kx3.mono (fun t q => by simp at q ⊢; omega))
            have HNX : Hid (LR dE ped n (s.bind pgr) (fun u K => ∃ nodes, NRow dN 74 u (.slice na nn nc) nodes ∧ K = fun es r => some ((nodes, es), r)) (w5.setCell ⟨gb, 1, none⟩ (.slice a5 n5 c5)) (i + 1) (((some rr).bind ped).map (·.2)) (rs ++ [c])) :=
              LR.step (X := [49, 79, 33]) hlr hlt hxl kx4 kx5 (by decide) (fun K hK => ⟨hK.choose, hK.choose_spec.1.kx kx4 (by decide) (by decide), hK.choose_spec.2⟩) (fun x l' e => by rw [hc]; exact hx9 x l' e)
            have hsz9 : u9.heap.size = w17.heap.size := by rw [hu9]; simp
            rw [hsz9] at hr5
            have HR5 := hide hr5
            have HF : Hid (Blk (w5.setCell ⟨gb, 1, none⟩ (.slice a5 n5 c5)) gb 33 [.slice na nn nc, .slice a5 n5 c5] ∧ Sw (eR dE.s) 79 (w5.setCell ⟨gb, 1, none⟩ (.slice a5 n5 c5)) (.slice a5 n5 c5) (rs ++ [c]) ∧ Fresh wb (.slice a5 n5 c5) ∧ Cb b wb (w5.setCell ⟨gb, 1, none⟩ (.slice a5 n5 c5)) ∧ Rc N (w5.setCell ⟨gb, 1, none⟩ (.slice a5 n5 c5)) b (((some rr).bind ped).map (·.2)) ∧ (rs ++ [c]).length = i + 1 ∧ i < n) :=
              ⟨hB5.set 1 _, hs5.kx kx3 (by decide), hf5, hc5.more h6 (fun k hk e => by have := HGE.out.2.1; omega), hsc5.far (F := fun k => k = gb) (fun k hk => by subst hk; exact ⟨HGE.out.2.2, HGE.out.1⟩) h6, by simp; exact hxl, hlt⟩
            have HWI : Hid (wrap64 ((i : Int) + 1) = ((i + 1 : Nat) : Int)) := by show _ = _; unfold wrap64; omega
            have hB8 : Blk (w17.setCell ⟨rb, 4, none⟩ (.slice pa pn pc)) gb 33 [.slice na nn nc, .slice ra rn rc] := by rw [← hu9]; exact hB9
            have kb0 := hB8.cell
            have kB5 := hB5.cell
            have fB5 := hB5.frozen
            have HU9 := hide hu9
            clear ho hof hob hch hB hA ho4 hi0 hz0 hz1 hz2 hmx hxl n21 hlt hlr hlit hr5 hs5 hch5 hob5 kx1 kx2 hB5 hB9 hB8 hcA hc5 hf5 hsc5 h6 kx3 kx4 kx5 hc hs9 hc9 hb9 hx9 HX HO HC HB3 HP hu9 hsz9 k3 i2
            go_wp2_with (first | (at_builtin; refine Hid.out ?_) | fail)
            unfold Hid
            rw [show (w17.setCell ⟨rb, 4, none⟩ (.slice pa pn pc)) = u9 from HU9.out.symm]
            refine wpList_append_run rfl _ _ 31 rfl (.slice ra rn rc) (.slice (some ⟨w17.heap.size, 0, none⟩) 1 1) rfl rfl HR5.out ?_
            go_wp2_with fail
            try rw [HWI.out]
            obtain ⟨r1, r2, r3, r4, r5, r6, r7⟩ := HF.out
            refine ⟨⟨i + 1, _, a5, n5, c5, rs ++ [c], rfl, r7, r1, r2, r3, r4, r5, r6, HNX.out⟩, ?_⟩
            simp only [RowKit.intOf]; omega
        · have i2 : ¬ (i : Int) < (n : Int) := by omega
          have HP := hide (HPE.out (.inr (by omega)))
          clear hin ho hof hch hs hxl hrel' b3 hlt HPE hB
          obtain ⟨hs9, hc9, hb9, hr9⟩ := HP.out
          have hq9 := HR1.out.2.chg hc9 HNR.out.1
          have c9 := hb9.cell
          have m9 := hq9.cell
          have z9 := hq9.frozen
          have HQ9 := hide hq9
          have HF : Hid (∀ u, Chg (fun k => k = w.heap.size) wo u → RetF N pgr (fun v => ∃ (da : Option Addr) (dn dc : Nat) (ea : Option Addr) (en ec : Nat), v = .agg #[.slice da dn dc, .slice ea en ec]) (fun u v x => ∀ (da : Option Addr) (dn dc : Nat) (ea : Option Addr) (en ec : Nat), v = .agg #[.slice da dn dc, .slice ea en ec] → NRow dN 74 u (.slice da dn dc) x.1 ∧ NRow dE 79 u (.slice ea en ec) x.2) b w s (.returned (.agg #[.slice na nn nc, .slice ra rn rc])) u) := fun u hu => gr_fin na nn nc ra rn rc HR1.out.1 hs9 hc9 hq9 (by
            rcases hr9 with h | ⟨r, xs, K, e, h1, ⟨nodes, h2, h3⟩, h4⟩
            · first | exact .inl h | exact .inl ⟨rfl, h.2⟩
            · exact .inr ⟨r, (nodes, xs), e, by rw [h4, h3], h2, h1⟩) hu HNR.out
          clear hs9 hc9 hb9 hr9 HP hq9
          go_wp2_with fail
          have hC9 := (HQ9.out.set 0 (.slice na nn nc)).set 1 (.slice ra rn rc)
          exact bodyPost_ret_by (v := .agg #[.slice na nn nc, .slice ra rn rc]) (results_cell_row Tryd.results18 _ _ w.heap.size 33 _ (0, 0) _ rfl hC9.h Tryd.underlying33 rfl (by kernel_rfl)) rfl (HF.out _ ((chg_setCell (F := fun k => k = w.heap.size) (b := w.heap.size) (o := 0) _ (.slice na nn nc) (.inl rfl)).trans (chg_setCell (F := fun k => k = w.heap.size) (b := w.heap.size) (o := 1) _ (.slice ra rn rc) (.inl rfl))))
end Go.Proofs.YtcdjjmjhdoanlaaDoor
