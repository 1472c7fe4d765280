/- Wire: a reply, read. -/
import Derived.Test.YtcdjjmjhdoanlaaGreatDoorW45
namespace Go.Proofs.YtcdjjmjhdoanlaaGreatDoor
open Go.RowKit

/-- A reply. -/
structure Rp where
  dst : Int
  code : Int
  nums : List Int
  texts : List ByteArray
  tables : List Tb
  nodes : List Nd
  edges : List Ed
abbrev dQ : Nst Rp := ⟨7, [2, 9, 74, 75, 137, 114, 119, 156], fun w cs x => ∃ a b c d e, cs = [I x.dst, I x.code, a, b, c, d, e] ∧ Sw eI 2 w a x.nums ∧ Sw eS 9 w b x.texts ∧ NRow dT 74 w c x.tables ∧ NRow dN 114 w d x.nodes ∧ NRow dE 119 w e x.edges, fun k ht h => by
  obtain ⟨a, b, c, d, e, h0, h1, h2, h3, h4, h5⟩ := h
  exact ⟨a, b, c, d, e, h0, h1.kx k (ht _ (by simp)), h2.kx k (ht _ (by simp)), h3.kx k (ht _ (by simp)) (fun t q => ht t (by simp at q; rcases q with rfl | rfl | rfl <;> simp)), h4.kx k (ht _ (by simp)) (fun t q => ht t (by simp at q; rcases q with rfl; simp)), h5.kx k (ht _ (by simp)) (fun t q => ht t (by simp at q; rcases q with rfl; simp))⟩⟩
/-- A reply's body, read. -/
def prp (k : Int) (l : List Nat) : Option (Rp × List Nat) := (pz l).bind fun a => (pl pz a.2).bind fun b => (pl pt b.2).bind fun c => (pl ptb c.2).bind fun d => (pl pnd d.2).bind fun e => (pl ped e.2).bind fun f => some (⟨k, a.1, b.1, c.1, d.1, e.1, f.1⟩, f.2)
theorem Ps.fin2 {β : Type} {N b : Nat} {w w1 u u' : World} {s : Option (List Nat)} {p : List Nat → Option (β × List Nat)} {rb rr : Nat} {T : TypeId} {cs cs2 : List Value} {Φ : World → List Nat → Prop} {Vf : Value → Prop} {R : World → Value → β → Prop} {v : Value} (hg : G w w1) (h : Ps N b w1 s p rb T cs Φ u) (hr2 : Blk u rr T cs2) (h3 : Chg (fun k => k = rr) u u') (hb : rr ≠ b ∧ w.heap.size ≤ rr ∧ N ≤ rr) (kΦ : ∀ u u' r, Kx [62, T] u u' → Φ u r → Φ u' r) (hV : Vf v) (hΦ : ∀ u r, Φ u r → ∃ x, s.bind p = some (x, r) ∧ R u v x) : GetF N p Vf R b w s (.returned v) u' := by
  obtain ⟨s', hs, hc, hB, hr⟩ := h
  have hs9 := hs.far (F := fun k => k = rr) (fun k hk => by subst hk; exact ⟨hb.2.2, hb.1⟩) h3
  refine ⟨v, rfl, hV, (hg.chg.trans hc).more h3 (fun k hk e => by omega), ?_⟩
  rcases hr with ⟨rfl, q⟩ | ⟨r, rfl, q⟩
  · rw [q]; exact ⟨hs9, fun x l' e => by cases e⟩
  · obtain ⟨x, q1, q2⟩ := hΦ _ r (kΦ _ _ _ (Kx.one h3 hr2 (by simp)) q)
    rw [q1]
    exact ⟨hs9, fun y l' e => by cases e; exact q2⟩
def parts (v : Value) : List Value := match v with | .agg a => a.toList | _ => []
set_option maxRecDepth 100000 in
set_option maxHeartbeats 1000000 in
theorem reply2_any (k : Int) (N : Nat) (w : World) (b : Nat) (s : Option (List Nat)) (h : Sc N w b s) (hN : N ≤ w.heap.size) (hT : TB b w) :
    Calls Tryz.prog 26 #[ptr b, I k] w (GetF N (prp k) (fun v => ∃ (na : Option Addr) (nn nc : Nat) (ta : Option Addr) (tn tc : Nat) (ba : Option Addr) (bn bc : Nat) (da : Option Addr) (dn dc : Nat) (ea : Option Addr) (en ec : Nat) (cd : Int), v = .agg #[I k, I cd, .slice na nn nc, .slice ta tn tc, .slice ba bn bc, .slice da dn dc, .slice ea en ec]) (fun u v x => dQ.r u (parts v) x) b w s) := by
  obtain ⟨xs0, hb0⟩ := h.blk
  have hbl := hb0.lt
  obtain ⟨w1, hw1⟩ : ∃ w1, w1 = w.alloc (.cells #[I 0, I 0, .slice none 0 0, .slice none 0 0, .slice none 0 0, .slice none 0 0, .slice none 0 0] 41) := ⟨_, rfl⟩
  obtain ⟨u0, hw0⟩ : ∃ u0, u0 = w1.alloc (.cells #[I k, I 0, .slice none 0 0, .slice none 0 0, .slice none 0 0, .slice none 0 0, .slice none 0 0] 41) := ⟨_, rfl⟩
  have hG1 : G w w1 := by rw [hw1]; exact (G.refl w).alloc _
  have hR1 : Blk w1 w.heap.size 41 [I 0, I 0, .slice none 0 0, .slice none 0 0, .slice none 0 0, .slice none 0 0, .slice none 0 0] := by rw [hw1]; exact Blk.new w [I 0, I 0, .slice none 0 0, .slice none 0 0, .slice none 0 0, .slice none 0 0, .slice none 0 0] _
  obtain ⟨rb, hrb⟩ : ∃ rb, rb = w1.heap.size := ⟨_, rfl⟩
  have hrl := hR1.lt
  have HP : Hid (Ps N b w1 s (prp k) rb 41 [I k, I 0, .slice none 0 0, .slice none 0 0, .slice none 0 0, .slice none 0 0, .slice none 0 0] (fun _ r => s = some r) u0) := Ps.start (prp k) (h.G hG1) (by rw [hw0]; exact (G.refl w1).alloc _) (by rw [hw0, hrb]; exact Blk.new w1 [I k, I 0, .slice none 0 0, .slice none 0 0, .slice none 0 0, .slice none 0 0, .slice none 0 0] _)
  have HNE : Hid (rb ≠ b ∧ w1.heap.size ≤ rb ∧ N ≤ rb) := ⟨by omega, by omega, by omega⟩
  have HNR : Hid (w.heap.size ≠ b ∧ w.heap.size ≤ w.heap.size ∧ N ≤ w.heap.size) := ⟨by omega, by omega, hN⟩
  have HNW : Hid (N ≤ w1.heap.size) := by show _ ≤ _; omega
  have HT := hide (hT.G hG1)
  have HR1 := hide (And.intro hG1 hR1)
  have HW : Hid (u0 = (w.alloc (.cells #[I 0, I 0, .slice none 0 0, .slice none 0 0, .slice none 0 0, .slice none 0 0, .slice none 0 0] 41)).alloc (.cells #[I k, I 0, .slice none 0 0, .slice none 0 0, .slice none 0 0, .slice none 0 0, .slice none 0 0] 41)) := by show _ = _; rw [hw0, hw1]
  have HRB2 : Hid (rb = (w.alloc (.cells #[I 0, I 0, .slice none 0 0, .slice none 0 0, .slice none 0 0, .slice none 0 0, .slice none 0 0] 41)).heap.size) := by show _ = _; rw [hrb, hw1]
  have HRB : Hid (rb = w.heap.size + 1) := by show _ = _; rw [hrb, hw1]; simp
  have HK := hide hw1
  clear h hN hT hb0 hbl hw0 hrb hw1 hG1 hR1 hrl
  go_enter Tryz.func26, Tryz.ntmps26
  go_wp2_with fail
  rw [show (w.alloc (.cells #[I 0, I 0, .slice none 0 0, .slice none 0 0, .slice none 0 0, .slice none 0 0, .slice none 0 0] 41)).alloc (.cells #[I k, I 0, .slice none 0 0, .slice none 0 0, .slice none 0 0, .slice none 0 0, .slice none 0 0] 41) = u0 from HW.out.symm]
  try rw [show (w.alloc (.cells #[I 0, I 0, .slice none 0 0, .slice none 0 0, .slice none 0 0, .slice none 0 0, .slice none 0 0] 41)).heap.size = rb from HRB2.out.symm]
  try rw [show w.heap.size + 1 = rb from HRB.out.symm]
  obtain ⟨s1, hs1, hc1, hb1, hr1⟩ := HP.out
  refine (nF_any N _ b s1 hs1).mono ?_
  rintro e w1 ⟨v1, rfl, ⟨cd, rfl⟩, hd1, hz1, hR1⟩
  have hB1 := hb1.chg hd1 HNE.out.1
  have k1 := hB1.cell
  have f1 := hB1.frozen
  replace HP := hide (Ps.step (p := (prp k)) (q := pz) (Φ := (fun _ r => s = some r)) (R := fun _ x => cd = x ∧ R64 x) hs1 hc1 hr1 HNE.out.2.2 HNE.out.2.1 HNE.out.1 hd1 hz1 (fun x l' e => by have := hR1 x l' e; simp at this; exact this) (chg_setCell (F := fun k => k = rb) (b := rb) (o := 1) _ (I cd) (.inl rfl)) hB1 (hB1.set 1 (I cd)) (fun _ _ _ _ h => h) (fun _ _ _ _ h => h) (fun u r h e => by
    have h0 := h
    rw [h0]
    show (prp k) _ = none
    simp [prp, e]))
  clear hs1 hc1 hb1 hr1 hd1 hz1 hR1 hB1
  go_wp2_with fail
  generalize (w1.setCell ⟨rb, 1, none⟩ (I cd)) = u1 at HP ⊢
  clear k1 f1
  obtain ⟨s2, hs2, hc2, hb2, hr2⟩ := HP.out
  refine (getIF_any N _ b s2 hs2 (Nat.le_trans HNW.out hc2.size)).mono ?_
  rintro e w2 ⟨v2, rfl, ⟨na, nn, nc, rfl⟩, hd2, hz2, hR2⟩
  have hB2 := hb2.chg hd2 HNE.out.1
  have k2 := hB2.cell
  have f2 := hB2.frozen
  replace HP := hide (Ps.step (p := (prp k)) (q := (pl pz)) (Φ := (fun u r' => ∃ r x, (fun _ r => s = some r) u r ∧ pz r = some (x, r') ∧ (fun _ x => cd = x ∧ R64 x) u x)) (R := fun u l => Sw eI 2 u (.slice na nn nc) l) hs2 hc2 hr2 HNE.out.2.2 HNE.out.2.1 HNE.out.1 hd2 hz2 (fun x l' e => by exact hR2 x l' e) (chg_setCell (F := fun k => k = rb) (b := rb) (o := 2) _ (.slice na nn nc) (.inl rfl)) hB2 (hB2.set 2 (.slice na nn nc)) (fun u u' r' k ⟨r, x, h1, h2, h3⟩ => ⟨r, x, (fun _ _ _ _ h => h) u u' r k h1, h2, (fun _ _ _ _ h => h) u u' x k h3⟩) (fun _ _ _ k h => h.kx k (by decide)) (fun u r h e => by
    obtain ⟨r1, x1, h0, e1, g1⟩ := h
    rw [h0]
    show (prp k) _ = none
    simp [prp, e1, e]))
  clear hs2 hc2 hb2 hr2 hd2 hz2 hR2 hB2
  go_wp2_with fail
  generalize (w2.setCell ⟨rb, 2, none⟩ (.slice na nn nc)) = u2 at HP ⊢
  clear k2 f2
  obtain ⟨s3, hs3, hc3, hb3, hr3⟩ := HP.out
  refine (getSF_any N _ b s3 hs3 (Nat.le_trans HNW.out hc3.size)).mono ?_
  rintro e w3 ⟨v3, rfl, ⟨ta, tn, tc, rfl⟩, hd3, hz3, hR3⟩
  have hB3 := hb3.chg hd3 HNE.out.1
  have k3 := hB3.cell
  have f3 := hB3.frozen
  replace HP := hide (Ps.step (p := (prp k)) (q := (pl pt)) (Φ := (fun u r' => ∃ r x, (fun u r' => ∃ r x, (fun _ r => s = some r) u r ∧ pz r = some (x, r') ∧ (fun _ x => cd = x ∧ R64 x) u x) u r ∧ (pl pz) r = some (x, r') ∧ (fun u l => Sw eI 2 u (.slice na nn nc) l) u x)) (R := fun u l => Sw eS 9 u (.slice ta tn tc) l) hs3 hc3 hr3 HNE.out.2.2 HNE.out.2.1 HNE.out.1 hd3 hz3 (fun x l' e => by exact hR3 x l' e) (chg_setCell (F := fun k => k = rb) (b := rb) (o := 3) _ (.slice ta tn tc) (.inl rfl)) hB3 (hB3.set 3 (.slice ta tn tc)) (fun u u' r' k ⟨r, x, h1, h2, h3⟩ => ⟨r, x, (fun u u' r' k ⟨r, x, h1, h2, h3⟩ => ⟨r, x, (fun _ _ _ _ h => h) u u' r k h1, h2, (fun _ _ _ _ h => h) u u' x k h3⟩) u u' r k h1, h2, (fun _ _ _ k h => h.kx k (by decide)) u u' x k h3⟩) (fun _ _ _ k h => h.kx k (by decide)) (fun u r h e => by
    obtain ⟨r2, x2, ⟨r1, x1, h0, e1, g1⟩, e2, g2⟩ := h
    rw [h0]
    show (prp k) _ = none
    simp [prp, e1, e2, e]))
  clear hs3 hc3 hb3 hr3 hd3 hz3 hR3 hB3
  go_wp2_with fail
  generalize (w3.setCell ⟨rb, 3, none⟩ (.slice ta tn tc)) = u3 at HP ⊢
  clear k3 f3
  obtain ⟨s4, hs4, hc4, hb4, hr4⟩ := HP.out
  refine (getT_any N _ b s4 hs4 (Nat.le_trans HNW.out hc4.size) (HT.out.cb hc4)).mono ?_
  rintro e w4 ⟨v4, rfl, ⟨ba, bn, bc, rfl⟩, hd4, hz4, hR4⟩
  have hB4 := hb4.chg hd4 HNE.out.1
  have k4 := hB4.cell
  have f4 := hB4.frozen
  replace HP := hide (Ps.step (p := (prp k)) (q := (pl ptb)) (Φ := (fun u r' => ∃ r x, (fun u r' => ∃ r x, (fun u r' => ∃ r x, (fun _ r => s = some r) u r ∧ pz r = some (x, r') ∧ (fun _ x => cd = x ∧ R64 x) u x) u r ∧ (pl pz) r = some (x, r') ∧ (fun u l => Sw eI 2 u (.slice na nn nc) l) u x) u r ∧ (pl pt) r = some (x, r') ∧ (fun u l => Sw eS 9 u (.slice ta tn tc) l) u x)) (R := fun u l => NRow dT 74 u (.slice ba bn bc) l) hs4 hc4 hr4 HNE.out.2.2 HNE.out.2.1 HNE.out.1 hd4 hz4 (fun x l' e => by exact hR4 x l' e) (chg_setCell (F := fun k => k = rb) (b := rb) (o := 4) _ (.slice ba bn bc) (.inl rfl)) hB4 (hB4.set 4 (.slice ba bn bc)) (fun u u' r' k ⟨r, x, h1, h2, h3⟩ => ⟨r, x, (fun u u' r' k ⟨r, x, h1, h2, h3⟩ => ⟨r, x, (fun u u' r' k ⟨r, x, h1, h2, h3⟩ => ⟨r, x, (fun _ _ _ _ h => h) u u' r k h1, h2, (fun _ _ _ _ h => h) u u' x k h3⟩) u u' r k h1, h2, (fun _ _ _ k h => h.kx k (by decide)) u u' x k h3⟩) u u' r k h1, h2, (fun _ _ _ k h => h.kx k (by decide)) u u' x k h3⟩) (fun _ _ _ k h => h.kx k (by decide) (by decide)) (fun u r h e => by
    obtain ⟨r3, x3, ⟨r2, x2, ⟨r1, x1, h0, e1, g1⟩, e2, g2⟩, e3, g3⟩ := h
    rw [h0]
    show (prp k) _ = none
    simp [prp, e1, e2, e3, e]))
  clear hs4 hc4 hb4 hr4 hd4 hz4 hR4 hB4
  go_wp2_with fail
  generalize (w4.setCell ⟨rb, 4, none⟩ (.slice ba bn bc)) = u4 at HP ⊢
  clear k4 f4
  obtain ⟨s5, hs5, hc5, hb5, hr5⟩ := HP.out
  refine (getN_any N _ b s5 hs5 (Nat.le_trans HNW.out hc5.size) (HT.out.cb hc5)).mono ?_
  rintro e w5 ⟨v5, rfl, ⟨da, dn, dc, rfl⟩, hd5, hz5, hR5⟩
  have hB5 := hb5.chg hd5 HNE.out.1
  have k5 := hB5.cell
  have f5 := hB5.frozen
  replace HP := hide (Ps.step (p := (prp k)) (q := (pl pnd)) (Φ := (fun u r' => ∃ r x, (fun u r' => ∃ r x, (fun u r' => ∃ r x, (fun u r' => ∃ r x, (fun _ r => s = some r) u r ∧ pz r = some (x, r') ∧ (fun _ x => cd = x ∧ R64 x) u x) u r ∧ (pl pz) r = some (x, r') ∧ (fun u l => Sw eI 2 u (.slice na nn nc) l) u x) u r ∧ (pl pt) r = some (x, r') ∧ (fun u l => Sw eS 9 u (.slice ta tn tc) l) u x) u r ∧ (pl ptb) r = some (x, r') ∧ (fun u l => NRow dT 74 u (.slice ba bn bc) l) u x)) (R := fun u l => NRow dN 114 u (.slice da dn dc) l) hs5 hc5 hr5 HNE.out.2.2 HNE.out.2.1 HNE.out.1 hd5 hz5 (fun x l' e => by exact hR5 x l' e) (chg_setCell (F := fun k => k = rb) (b := rb) (o := 5) _ (.slice da dn dc) (.inl rfl)) hB5 (hB5.set 5 (.slice da dn dc)) (fun u u' r' k ⟨r, x, h1, h2, h3⟩ => ⟨r, x, (fun u u' r' k ⟨r, x, h1, h2, h3⟩ => ⟨r, x, (fun u u' r' k ⟨r, x, h1, h2, h3⟩ => ⟨r, x, (fun u u' r' k ⟨r, x, h1, h2, h3⟩ => ⟨r, x, (fun _ _ _ _ h => h) u u' r k h1, h2, (fun _ _ _ _ h => h) u u' x k h3⟩) u u' r k h1, h2, (fun _ _ _ k h => h.kx k (by decide)) u u' x k h3⟩) u u' r k h1, h2, (fun _ _ _ k h => h.kx k (by decide)) u u' x k h3⟩) u u' r k h1, h2, (fun _ _ _ k h => h.kx k (by decide) (by decide)) u u' x k h3⟩) (fun _ _ _ k h => h.kx k (by decide) (by decide)) (fun u r h e => by
    obtain ⟨r4, x4, ⟨r3, x3, ⟨r2, x2, ⟨r1, x1, h0, e1, g1⟩, e2, g2⟩, e3, g3⟩, e4, g4⟩ := h
    rw [h0]
    show (prp k) _ = none
    simp [prp, e1, e2, e3, e4, e]))
  clear hs5 hc5 hb5 hr5 hd5 hz5 hR5 hB5
  go_wp2_with fail
  generalize (w5.setCell ⟨rb, 5, none⟩ (.slice da dn dc)) = u5 at HP ⊢
  clear k5 f5
  obtain ⟨s6, hs6, hc6, hb6, hr6⟩ := HP.out
  refine (getE_any N _ b s6 hs6 (Nat.le_trans HNW.out hc6.size) (HT.out.cb hc6)).mono ?_
  rintro e w6 ⟨v6, rfl, ⟨ea, en, ec, rfl⟩, hd6, hz6, hR6⟩
  have hB6 := hb6.chg hd6 HNE.out.1
  have k6 := hB6.cell
  have f6 := hB6.frozen
  replace HP := hide (Ps.step (p := (prp k)) (q := (pl ped)) (Φ := (fun u r' => ∃ r x, (fun u r' => ∃ r x, (fun u r' => ∃ r x, (fun u r' => ∃ r x, (fun u r' => ∃ r x, (fun _ r => s = some r) u r ∧ pz r = some (x, r') ∧ (fun _ x => cd = x ∧ R64 x) u x) u r ∧ (pl pz) r = some (x, r') ∧ (fun u l => Sw eI 2 u (.slice na nn nc) l) u x) u r ∧ (pl pt) r = some (x, r') ∧ (fun u l => Sw eS 9 u (.slice ta tn tc) l) u x) u r ∧ (pl ptb) r = some (x, r') ∧ (fun u l => NRow dT 74 u (.slice ba bn bc) l) u x) u r ∧ (pl pnd) r = some (x, r') ∧ (fun u l => NRow dN 114 u (.slice da dn dc) l) u x)) (R := fun u l => NRow dE 119 u (.slice ea en ec) l) hs6 hc6 hr6 HNE.out.2.2 HNE.out.2.1 HNE.out.1 hd6 hz6 (fun x l' e => by exact hR6 x l' e) (chg_setCell (F := fun k => k = rb) (b := rb) (o := 6) _ (.slice ea en ec) (.inl rfl)) hB6 (hB6.set 6 (.slice ea en ec)) (fun u u' r' k ⟨r, x, h1, h2, h3⟩ => ⟨r, x, (fun u u' r' k ⟨r, x, h1, h2, h3⟩ => ⟨r, x, (fun u u' r' k ⟨r, x, h1, h2, h3⟩ => ⟨r, x, (fun u u' r' k ⟨r, x, h1, h2, h3⟩ => ⟨r, x, (fun u u' r' k ⟨r, x, h1, h2, h3⟩ => ⟨r, x, (fun _ _ _ _ h => h) u u' r k h1, h2, (fun _ _ _ _ h => h) u u' x k h3⟩) u u' r k h1, h2, (fun _ _ _ k h => h.kx k (by decide)) u u' x k h3⟩) u u' r k h1, h2, (fun _ _ _ k h => h.kx k (by decide)) u u' x k h3⟩) u u' r k h1, h2, (fun _ _ _ k h => h.kx k (by decide) (by decide)) u u' x k h3⟩) u u' r k h1, h2, (fun _ _ _ k h => h.kx k (by decide) (by decide)) u u' x k h3⟩) (fun _ _ _ k h => h.kx k (by decide) (by decide)) (fun u r h e => by
    obtain ⟨r5, x5, ⟨r4, x4, ⟨r3, x3, ⟨r2, x2, ⟨r1, x1, h0, e1, g1⟩, e2, g2⟩, e3, g3⟩, e4, g4⟩, e5, g5⟩ := h
    rw [h0]
    show (prp k) _ = none
    simp [prp, e1, e2, e3, e4, e5, e]))
  clear hs6 hc6 hb6 hr6 hd6 hz6 hR6 hB6
  obtain ⟨s9, hs9, hc9, hb9, hr9⟩ := id HP.out
  have hq9 := HR1.out.2.chg hc9 HNR.out.1
  have c9 := hb9.cell
  have m9 := hq9.cell
  have z9 := hq9.frozen
  have HQ9 := hide hq9
  have HF : Hid (∀ u, Chg (fun k => k = w.heap.size) (w6.setCell ⟨rb, 6, none⟩ (.slice ea en ec)) u → GetF N (prp k) (fun v => ∃ (na : Option Addr) (nn nc : Nat) (ta : Option Addr) (tn tc : Nat) (ba : Option Addr) (bn bc : Nat) (da : Option Addr) (dn dc : Nat) (ea : Option Addr) (en ec : Nat) (cd : Int), v = .agg #[I k, I cd, .slice na nn nc, .slice ta tn tc, .slice ba bn bc, .slice da dn dc, .slice ea en ec]) (fun u v x => dQ.r u (parts v) x) b w s (.returned (.agg #[I k, I cd, .slice na nn nc, .slice ta tn tc, .slice ba bn bc, .slice da dn dc, .slice ea en ec])) u) := fun u hu => Ps.fin2 HR1.out.1 HP.out HQ9.out hu HNR.out (fun u u' r' k ⟨r, x, h1, h2, h3⟩ => ⟨r, x, (fun u u' r' k ⟨r, x, h1, h2, h3⟩ => ⟨r, x, (fun u u' r' k ⟨r, x, h1, h2, h3⟩ => ⟨r, x, (fun u u' r' k ⟨r, x, h1, h2, h3⟩ => ⟨r, x, (fun u u' r' k ⟨r, x, h1, h2, h3⟩ => ⟨r, x, (fun u u' r' k ⟨r, x, h1, h2, h3⟩ => ⟨r, x, (fun _ _ _ _ h => h) u u' r k h1, h2, (fun _ _ _ _ h => h) u u' x k h3⟩) u u' r k h1, h2, (fun _ _ _ k h => h.kx k (by decide)) u u' x k h3⟩) u u' r k h1, h2, (fun _ _ _ k h => h.kx k (by decide)) u u' x k h3⟩) u u' r k h1, h2, (fun _ _ _ k h => h.kx k (by decide) (by decide)) u u' x k h3⟩) u u' r k h1, h2, (fun _ _ _ k h => h.kx k (by decide) (by decide)) u u' x k h3⟩) u u' r k h1, h2, (fun _ _ _ k h => h.kx k (by decide) (by decide)) u u' x k h3⟩) ⟨na, nn, nc, ta, tn, tc, ba, bn, bc, da, dn, dc, ea, en, ec, cd, rfl⟩ (fun u r h => by
    obtain ⟨r6, x6, ⟨r5, x5, ⟨r4, x4, ⟨r3, x3, ⟨r2, x2, ⟨r1, x1, h0, e1, g1⟩, e2, g2⟩, e3, g3⟩, e4, g4⟩, e5, g5⟩, e6, g6⟩ := h
    refine ⟨⟨k, x1, x2, x3, x4, x5, x6⟩, ?_, ?_⟩
    · rw [h0]
      show prp k _ = _
      simp [prp, e1, e2, e3, e4, e5, e6]
    · exact ⟨_, _, _, _, _, by rw [g1.1]; rfl, g2, g3, g4, g5, g6⟩)
  clear hs9 hc9 hb9 hr9 HP hq9
  go_wp2_with fail
  have hC9 := (((((((HQ9.out.set 0 (I k)).set 1 (I cd)).set 2 (.slice na nn nc)).set 3 (.slice ta tn tc)).set 4 (.slice ba bn bc)).set 5 (.slice da dn dc)).set 6 (.slice ea en ec))
  exact bodyPost_ret_by (v := .agg #[I k, I cd, .slice na nn nc, .slice ta tn tc, .slice ba bn bc, .slice da dn dc, .slice ea en ec]) (results_cell_row Tryz.results26 _ _ w.heap.size 41 _ (0, 0) _ rfl hC9.h Tryz.underlying41 rfl (by kernel_rfl)) rfl (HF.out _ ((((((((chg_setCell (F := fun k => k = w.heap.size) (b := w.heap.size) (o := 0) _ (I k) (.inl rfl)).trans (chg_setCell (F := fun k => k = w.heap.size) (b := w.heap.size) (o := 1) _ (I cd) (.inl rfl))).trans (chg_setCell (F := fun k => k = w.heap.size) (b := w.heap.size) (o := 2) _ (.slice na nn nc) (.inl rfl))).trans (chg_setCell (F := fun k => k = w.heap.size) (b := w.heap.size) (o := 3) _ (.slice ta tn tc) (.inl rfl))).trans (chg_setCell (F := fun k => k = w.heap.size) (b := w.heap.size) (o := 4) _ (.slice ba bn bc) (.inl rfl))).trans (chg_setCell (F := fun k => k = w.heap.size) (b := w.heap.size) (o := 5) _ (.slice da dn dc) (.inl rfl))).trans (chg_setCell (F := fun k => k = w.heap.size) (b := w.heap.size) (o := 6) _ (.slice ea en ec) (.inl rfl)))))
end Go.Proofs.YtcdjjmjhdoanlaaGreatDoor
